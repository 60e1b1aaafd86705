import PyProof.Rows.All
import Wide.All
import OpenK.AllK
import Wide.FinOn
import HandS.ForMost
import HandS.Evl
import HandS.Walk
import HandS.Defaults
import HandS.Property
import HandS.Style
import HandS.Flow
import HandS.IsInst
import HandS.Conv
import HandS.Wide
import HandS.OwnEq
import HandS.EndBits
import KE.KFmtOwn
import HandS.SortKw
import HandS.DictComp
import HandS.More
import HandS.TupAny
import HandS.Zip
import HandS.Exc
import HandS.ExcOwn
import HandS.ExcInit
import HandS.ExcField
import HandS.WordsExc
import HandS.SortInts
import PyProof.Rows.RuleB_pow
import PySem.Challenge.RW_listwindow_k34_turns_tick_by_tick
set_option Elab.async false
set_option linter.all false
set_option maxRecDepth 100000
set_option maxHeartbeats 4000000
/-! Readings that choose their rule when the values are known; what is known of the heap, and what grows. -/
namespace Lw
open PySem PySem.Spec L2 Evl

/-! ### judgements with the rule left open -/
def WE (X : Cx) (e : Expr) : TE := fun σ H Q => ∃ t, PE X e t ∧ t σ H Q
def WT (X : Cx) (e : Expr) : TT := fun σ H Q => ∃ t, PT X e t ∧ t σ H Q
def WB (X : Cx) (e : Expr) : TT := fun σ H Q => ∃ t, PW X e t ∧ t σ H Q
def WA (X : Cx) (es : List Expr) : TA := fun σ H Q => ∃ t, PA X es t ∧ t σ H Q
def WK (X : Cx) (ks : List Keyword) : TA := fun σ H Q => ∃ t, PK X ks t ∧ t σ H Q
def WS (X : Cx) (s : Stmt) : TS := fun D σ H => ∃ t, PS X s t ∧ t D σ H
def WSs (X : Cx) (s : List Stmt) : TS := fun D σ H => ∃ t, PSs X s t ∧ t D σ H
def WG (X : Cx) (tg : Expr) : TG := fun v σ H Q => ∃ t, PG X tg t ∧ t v σ H Q
def WGs (X : Cx) (tgs : List Expr) : TGs := fun v σ H Q => ∃ t, PGs X tgs t ∧ t v σ H Q
def WI (X : Cx) (tg it : Expr) : TI := fun σ H R => ∃ t, PI X tg it t ∧ t σ H R
def WO (X : Cx) (e : Option Expr) : TO := fun σ H Q => ∃ t, PO X e t ∧ t σ H Q
def WTs (X : Cx) (es : List Expr) : TT := fun σ H Q => ∃ t, PTs X es t ∧ t σ H Q
section
variable {X : Cx} {e tg : Expr} {es : List Expr} {s : Stmt} {ss : List Stmt} {ks : List Keyword} {o : Option Expr}
theorem WE.pe : PE X e (WE X e) := ⟨fun pins s σ H Q I h => by obtain ⟨t, h1, h2⟩ := h; exact h1.run pins s σ H Q I h2⟩
theorem WT.pt : PT X e (WT X e) := ⟨fun pins s σ H Q I h => by obtain ⟨t, h1, h2⟩ := h; exact h1.run pins s σ H Q I h2⟩
theorem WB.pw : PW X e (WB X e) := ⟨fun wh pins s σ H Q I h => by obtain ⟨t, h1, h2⟩ := h; exact h1.run wh pins s σ H Q I h2⟩
theorem WA.pa : PA X es (WA X es) := ⟨fun pos pins s σ H Q I h => by obtain ⟨t, h1, h2⟩ := h; exact h1.run pos pins s σ H Q I h2⟩
theorem WK.pk : PK X ks (WK X ks) := ⟨fun pos pins s σ H Q I h => by obtain ⟨t, h1, h2⟩ := h; exact h1.run pos pins s σ H Q I h2⟩
theorem WS.ps : PS X s (WS X s) := ⟨fun pins s σ H D I h => by obtain ⟨t, h1, h2⟩ := h; exact h1.run pins s σ H D I h2⟩
theorem WSs.pss : PSs X ss (WSs X ss) := ⟨fun pins s σ H D I h => by obtain ⟨t, h1, h2⟩ := h; exact h1.run pins s σ H D I h2⟩
theorem WG.pg : PG X tg (WG X tg) := ⟨fun pins s σ H v u Q I r h => by obtain ⟨t, h1, h2⟩ := h; exact h1.run pins s σ H v u Q I r h2⟩
theorem WGs.pgs : PGs X es (WGs X es) := ⟨fun pins s σ H v u Q I r h => by obtain ⟨t, h1, h2⟩ := h; exact h1.run pins s σ H v u Q I r h2⟩
theorem WI.pi : PI X tg e (WI X tg e) := ⟨fun pins s σ H R I h => by obtain ⟨t, h1, h2⟩ := h; exact h1.run pins s σ H R I h2⟩
theorem WO.po : PO X o (WO X o) := ⟨fun pins s σ H Q I h => by obtain ⟨t, h1, h2⟩ := h; exact h1.run pins s σ H Q I h2⟩
theorem WTs.pts : PTs X es (WTs X es) := ⟨fun pins s σ H Q I h => by obtain ⟨t, h1, h2⟩ := h; exact h1.run pins s σ H Q I h2⟩
end

/-! ### expressions -/
section
variable {X : Cx} {σ : L2.St} {H : Hp} {Q : VK} {a b c e : Expr} {pos p2 : Pos} {x : Str} {v : V} {r r2 : R2}
theorem e_name (i : Nat) (hN : X.N[i]? = some x := by rfl) (hs : σ[i]? = some (some v) := by rfl) (hv : Vis X.env.scope x := by first | exact Or.inl rfl | exact Or.inr (Or.inl rfl) | exact Or.inr (Or.inr rfl)) (hd : (x == ("__debug__" : Str)) = false := by decide)
    (hcd : (x == ("__classdict__" : Str)) = false := by decide) (q : Q v H) : WE X (.Name x pos) σ H Q := ⟨_, pe_var hN hv hd hcd, v, hs, q⟩
theorem e_glob {u : Value} (hm : X.mg x = some u) (rv : RelV v u) (hg : Gl X x := by rfl) (hd : (x == ("__debug__" : Str)) = false := by decide) (q : Q v H) : WE X (.Name x pos) σ H Q := ⟨_, pe_glob hg hm rv hd, q⟩
theorem e_bltn {u : Value} (hm : X.mg x = none) (hv : bootBuiltins x = some u) (rv : RelV v u) (hg : Gl X x := by rfl) (hn : x ≠ "__name__" := by decide) (hd : (x == ("__debug__" : Str)) = false := by decide) (q : Q v H) : WE X (.Name x pos) σ H Q := ⟨_, pe_bltn hg hm hv rv hn hd, q⟩
theorem e_int {i j} (q : Q (.int i) H) : WE X (.Constant (.int i) j pos) σ H Q := ⟨_, pe_int, q⟩
theorem e_bl {i j} (q : Q (.bl i) H) : WE X (.Constant (.bool i) j pos) σ H Q := ⟨_, pe_bl, q⟩
theorem e_non {j} (q : Q .non H) : WE X (.Constant .none j pos) σ H Q := ⟨_, pe_non, q⟩
theorem e_str {i j} (q : Q (.str i) H) : WE X (.Constant (.str i) j pos) σ H Q := ⟨_, pe_str, q⟩
theorem e_bin {op : Operator} (ho : OpR X (binaryOp op) r) (h : WE X a σ H fun x H1 => WE X b σ H1 fun y H2 => r x y H2 Q) : WE X (.BinOp a op b pos) σ H Q := ⟨_, pe_op ho WE.pe WE.pe, h⟩
theorem e_cmp {op : CmpOp} (ho : OpR X (compareOp op) r) (hm : behindInMarks op b = false := by first | exact nomark _ | rfl) (h : WE X a σ H fun x H1 => WE X b σ H1 fun y H2 => r x y H2 Q) : WE X (.Compare a [op] [b] pos) σ H Q := ⟨_, pe_cmpR ho WE.pe WE.pe hm, h⟩
theorem e_neg (h : WE X a σ H fun x H1 => ∃ i, x = .int i ∧ Q (.int (-i)) H1) : WE X (.UnaryOp .USub a pos) σ H Q := ⟨_, pe_un un_neg WE.pe, h⟩
theorem e_add (h : WE X a σ H fun x H1 => WE X b σ H1 fun y H2 => ∃ i j, x = .int i ∧ y = .int j ∧ Q (.int (i + j)) H2) : WE X (.BinOp a .Add b pos) σ H Q := e_bin op_add h
theorem e_sub (h : WE X a σ H fun x H1 => WE X b σ H1 fun y H2 => ∃ i j, x = .int i ∧ y = .int j ∧ Q (.int (i - j)) H2) : WE X (.BinOp a .Sub b pos) σ H Q := e_bin op_sub h
theorem e_mul (h : WE X a σ H fun x H1 => WE X b σ H1 fun y H2 => ∃ i j, x = .int i ∧ y = .int j ∧ CMulW i j ∧ Q (.int (i * j)) H2) : WE X (.BinOp a .Mult b pos) σ H Q := e_bin op_mulW h
theorem e_mod (h : WE X a σ H fun x H1 => WE X b σ H1 fun y H2 => ∃ i j, x = .int i ∧ y = .int j ∧ 0 < j ∧ Q (.int (i % j)) H2) : WE X (.BinOp a .Mod b pos) σ H Q := e_bin op_mod h
theorem e_fdiv (h : WE X a σ H fun x H1 => WE X b σ H1 fun y H2 => ∃ i j, x = .int i ∧ y = .int j ∧ CDivW i j ∧ Q (.int (i / j)) H2) : WE X (.BinOp a .FloorDiv b pos) σ H Q := e_bin op_fdivW h
theorem e_pow (h : WE X a σ H fun x H1 => WE X b σ H1 fun y H2 => ∃ i j, x = .int i ∧ y = .int j ∧ CPow i j ∧ Q (.int (i ^ j.toNat)) H2) : WE X (.BinOp a .Pow b pos) σ H Q := e_bin op_pow h
theorem e_if {t : Expr} (h : WT X t σ H fun k H1 => if k = true then WE X a σ H1 Q else WE X b σ H1 Q) : WE X (.IfExp t a b pos) σ H Q := ⟨_, pe_ifExp WT.pt WE.pe WE.pe, h⟩
theorem e_and {rest : List Expr} (h : WE X a σ H fun x H1 => ∃ c, x = .bl c ∧ if c = true then WE X (.BoolOp .And (b :: rest) pos) σ H1 Q else Q (.bl false) H1) : WE X (.BoolOp .And (a :: b :: rest) pos) σ H Q := ⟨_, pe_and WE.pe WE.pe, h⟩
theorem e_or {rest : List Expr} (h : WE X a σ H fun x H1 => ∃ c, x = .bl c ∧ if c = true then Q (.bl true) H1 else WE X (.BoolOp .Or (b :: rest) pos) σ H1 Q) : WE X (.BoolOp .Or (a :: b :: rest) pos) σ H Q := ⟨_, pe_or WE.pe WE.pe, h⟩
theorem e_one {op} (h : WE X a σ H Q) : WE X (.BoolOp op [a] pos) σ H Q := ⟨_, pe_one WE.pe, h⟩
theorem e_not (h : WE X a σ H fun x H1 => ∃ c, x = .bl c ∧ Q (.bl (!c)) H1) : WE X (.UnaryOp .Not a pos) σ H Q := ⟨_, pe_not WE.pe, h⟩
theorem e_lst {es : List Expr} (h : WA X es σ H fun xs H1 => xs.length ≤ sizeLine ∧ ∀ p, H1 p = none → Q (.ref p) (upd H1 p (.lst xs))) : WE X (.List es pos) σ H Q := ⟨_, pe_lst WA.pa, h⟩
theorem e_tup {es : List Expr} {k : Nat} (h : WA X es σ H fun xs H1 => xs.length ≤ sizeLine ∧ ∀ p, H1 p = none → Q (.ref p) (upd H1 p (.tup xs))) : WE X (.Tuple es k pos) σ H Q := ⟨_, pe_tup WA.pa, h⟩
theorem e_ixL (hs : PlainIx b := by exact fun _ _ => rfl) (h : WE X a σ H fun x H1 => WE X b σ H1 fun y H2 => ∃ p xs i v, x = .ref p ∧ y = .int i ∧ SqL X.K H2 p xs ∧ atI xs i = some v ∧ Q v H2) : WE X (.Subscript a b pos) σ H Q := ⟨_, pe_ix ix_list WE.pe WE.pe hs, h⟩
theorem e_ixT (hs : PlainIx b := by exact fun _ _ => rfl) (h : WE X a σ H fun x H1 => WE X b σ H1 fun y H2 => ∃ p xs i v, x = .ref p ∧ y = .int i ∧ SqT X.K H2 p xs ∧ atI xs i = some v ∧ Q v H2) : WE X (.Subscript a b pos) σ H Q := ⟨_, pe_ix ix_tup WE.pe WE.pe hs, h⟩
theorem e_fld {f : Str} (hb : attributeBase e f X.env (eval e X.env) = eval e X.env := by rfl) (h : WE X e σ H fun x H1 => ∃ a C dx fs v, x = .ref a ∧ H1 a = some (.ins C dx fs) ∧ Cls X.K C ∧ NoAttr X.K C f ∧ fs.lookup f = some v ∧ Q v H1) : WE X (.Attribute e f pos) σ H Q := ⟨_, pe_fld WE.pe hb, h⟩
theorem e_slice {lo hi : Option Expr} (h : WE X a σ H fun x H1 => WO X lo σ H1 fun i H2 => WO X hi σ H2 fun j H3 => ∃ a xs, x = .ref a ∧ SqL X.K H3 a xs ∧ ∀ p, H3 p = none → Q (.ref p) (upd H3 p (.lst (cutV xs i j)))) : WE X (.Subscript a (.Slice lo hi none p2) pos) σ H Q := ⟨_, pe_slice sl_list WE.pe WO.po WO.po, h⟩
theorem o_none {Q : Option Int → Hp → Prop} (q : Q none H) : WO X none σ H Q := ⟨_, po_none, q⟩
theorem o_some {Q : Option Int → Hp → Prop} (h : WE X e σ H fun x H1 => ∃ i, x = .int i ∧ Q (some i) H1) : WO X (some e) σ H Q := ⟨_, po_some WE.pe, h⟩
/-- a built-in by its name -/
theorem e_blt {id : String} {rc : List V → Hp → VK → Prop} {es : List Expr} (hc : CallR X (.builtin id) rc) (hm : X.mg x = none) (hv : bootBuiltins x = some (.builtin id)) (h : WA X (e :: es) σ H fun vs H1 => rc vs H1 Q)
    (hg : Gl X x := by rfl) (hn : x ≠ "__name__" := by decide) (hd : (x == ("__debug__" : Str)) = false := by decide) (he : starEach (e :: es) X.env = (false, eval e X.env) :: starEach es X.env := by rfl) (hpl : (backTo pos (starEach es X.env)).any (·.1) = false := by rfl) : WE X (.Call (.Name x p2) (e :: es) [] pos) σ H Q :=
  ⟨_, pe_callB hc hg hm hv WA.pa hn hd he hpl, h⟩
end
section
variable {X : Cx} {σ : L2.St} {H : Hp} {Q : VK} {a b c e : Expr} {pos p2 : Pos} {x : Str} {v : V} {r r2 : R2} {es : List Expr} {QA : List V → Hp → Prop} {QT : Bool → Hp → Prop}
theorem e_ty {T : String} {rc : List V → Hp → VK → Prop} (hc : CallR X (.type T) rc) (hm : X.mg x = none) (hv : bootBuiltins x = some (.type T)) (h : WA X (e :: es) σ H fun vs H1 => rc vs H1 Q)
    (hg : Gl X x := by rfl) (hn : x ≠ "__name__" := by decide) (hd : (x == ("__debug__" : Str)) = false := by decide) (he : starEach (e :: es) X.env = (false, eval e X.env) :: starEach es X.env := by rfl) (hpl : (backTo pos (starEach es X.env)).any (·.1) = false := by rfl) : WE X (.Call (.Name x p2) (e :: es) [] pos) σ H Q :=
  ⟨_, pe_callTy hc hg hm hv WA.pa hn hd he hpl, h⟩
theorem a_nil (q : QA [] H) : WA X [] σ H QA := ⟨_, pa_nil, q⟩
theorem a_cons (hp : starEach (e :: es) X.env = (false, eval e X.env) :: starEach es X.env := by rfl) (h : WE X e σ H fun x H1 => WA X es σ H1 fun xs H2 => QA (x :: xs) H2) : WA X (e :: es) σ H QA := ⟨_, pa_cons WE.pe WA.pa hp, h⟩
theorem k_nil (q : QA [] H) : WK X [] σ H QA := ⟨_, pk_nil, q⟩
theorem k_cons {nm : Option Str} {kp : Pos} {ks : List Keyword} (h : WE X e σ H fun x H1 => WK X ks σ H1 fun xs H2 => QA (x :: xs) H2) : WK X (⟨nm, e, kp⟩ :: ks) σ H QA := ⟨_, pk_cons WE.pe WK.pk, h⟩

/-! ### tests -/
theorem t_val (h : WE X e σ H fun x H1 => ∃ k, x = .bl k ∧ QT k H1) (he : ∀ whole, isTrue e X.env whole = (do let v ← whole; standAt e.pos; holding [v] (truthy v)) := by intro _; rfl) : WT X e σ H QT := ⟨_, pt_val WE.pe he, h⟩
theorem t_tru (h : WE X e σ H fun x H1 => ∃ k, TruV X.K x H1 k ∧ QT k H1) (he : ∀ whole, isTrue e X.env whole = (do let v ← whole; standAt e.pos; holding [v] (truthy v)) := by intro _; rfl) : WT X e σ H QT := ⟨_, pt_truth WE.pe he, h⟩
theorem t_cmp {op : CmpOp} (ho : OpR X (compareOp op) r) (hm : behindInMarks op b = false := by first | exact nomark _ | rfl) (h : WE X a σ H fun x H1 => WE X b σ H1 fun y H2 => r x y H2 fun z H3 => ∃ k, z = .bl k ∧ QT k H3) : WT X (.Compare a [op] [b] pos) σ H QT := ⟨_, pt_cmpR ho WE.pe WE.pe hm, h⟩
theorem t_chain {op op' : CmpOp} {r' : R2} (ho : OpR X (compareOp op) r) (ho' : OpR X (compareOp op') r') (hm : lastMarks [op, op'] [b, c] = false := by with_unfolding_all rfl) (h : WE X a σ H fun x H1 => WE X b σ H1 fun y H2 => r x y H2 fun z H3 => ∃ k, z = .bl k ∧ (if k = true then WE X c σ H3 (fun w H4 => r' y w H4 fun z H5 => ∃ k, z = .bl k ∧ QT k H5) else ∃ k', V.bl false = .bl k' ∧ QT k' H3)) : WT X (.Compare a [op, op'] [b, c] pos) σ H QT := ⟨_, pt_chain ho ho' WE.pe WE.pe WE.pe hm, by
    show WE X a σ H fun x H1 => WE X b σ H1 fun y H2 => r x y H2 fun z H3 => ∃ k, z = .bl k ∧ (if k = true then WE X c σ H3 (fun w H4 => r' y w H4 fun z H5 => ∃ k, z = .bl k ∧ QT k H5) else (fun (x : V) H' => ∃ k, x = V.bl k ∧ QT k H') (.bl false) H3)
    exact h⟩
theorem t_not (h : WT X a σ H fun k H1 => QT (!k) H1) : WT X (.UnaryOp .Not a pos) σ H QT := ⟨_, pt_not WT.pt, h⟩
theorem t_wb (h : WB X e σ H QT) : WT X e σ H QT := ⟨_, WB.pw.pt, h⟩
theorem b_and {rest : List Expr} (h : WT X a σ H fun k H1 => if k = true then WB X (.BoolOp .And (b :: rest) pos) σ H1 QT else QT false H1) : WB X (.BoolOp .And (a :: b :: rest) pos) σ H QT := ⟨_, pw_and WT.pt WB.pw, h⟩
theorem b_or {rest : List Expr} (h : WT X a σ H fun k H1 => if k = true then QT true H1 else WB X (.BoolOp .Or (b :: rest) pos) σ H1 QT) : WB X (.BoolOp .Or (a :: b :: rest) pos) σ H QT := ⟨_, pw_or WT.pt WB.pw, h⟩
theorem b_and1 (h : WT X a σ H QT) : WB X (.BoolOp .And [a] pos) σ H QT := ⟨_, pw_and1 WT.pt, h⟩
theorem b_or1 (h : WT X a σ H QT) : WB X (.BoolOp .Or [a] pos) σ H QT := ⟨_, pw_or1 WT.pt, h⟩

/-! ### targets -/
theorem g_name (i : Nat) {QG : L2.St → Hp → Prop} (hN : X.N.Nodup) (hi : X.N[i]? = some x := by rfl) (hx : Loc X.env.scope x := by first | exact Or.inl rfl | exact Or.inr rfl) (hf : X.fn x = true ∨ X.env.scope.names.lookup x = some .local := by first | exact .inl rfl | exact .inr rfl | assumption) (q : QG (σ.set i (some v)) H) : WG X (.Name x pos) v σ H QG := ⟨_, pg_name hN hi hx hf, q⟩
theorem gs_nil {QG : L2.St → Hp → Prop} (q : QG σ H) : WGs X [] [] σ H QG := ⟨_, pgs_nil, rfl, q⟩
theorem gs_cons {QG : L2.St → Hp → Prop} {vs : List V} (hs : (assignEach (e :: es) X.env).map (·.2) = assign e X.env :: (assignEach es X.env).map (·.2) := by rfl) (h : WG X e v σ H fun σ' H' => WGs X es vs σ' H' QG) : WGs X (e :: es) (v :: vs) σ H QG := ⟨_, pgs_cons WG.pg WGs.pgs hs, v, vs, rfl, h⟩
theorem g_tup {QG : L2.St → Hp → Prop} {k n : Nat} {p : Addr} {vs : List V} (hq : SqT X.K H p vs) (hl : vs.length = n) (hc : X.calm = true := by rfl) (hn : (assignEach es X.env).length = n := by rfl) (hst : (assignEach es X.env).findIdx? (·.1) = none := by rfl) (h : WGs X es vs σ H QG) : WG X (.Tuple es k pos) (.ref p) σ H QG := ⟨_, pg_tup hc WGs.pgs hn hst, p, vs, rfl, hq, hl, h⟩

/-! ### statements -/
variable {D : Ends} {st : Stmt} {rest body orelse : List Stmt}
theorem s_nil (q : D.nx σ H) : WSs X [] D σ H := ⟨_, pss_nil, q⟩
theorem s_cons (h : WS X st { D with nx := WSs X rest D } σ H) : WSs X (st :: rest) D σ H := ⟨_, pss_cons WS.ps WSs.pss, h⟩
theorem s_one (h : WS X st D σ H) : WSs X [st] D σ H := ⟨_, pss_one WS.ps, h⟩
theorem s_pass (q : D.nx σ H) : WS X (.Pass pos) D σ H := ⟨_, ps_pass, q⟩
theorem s_break (q : D.bk σ H) : WS X (.Break pos) D σ H := ⟨_, ps_break, q⟩
theorem s_cont (q : D.ct σ H) : WS X (.Continue pos) D σ H := ⟨_, ps_continue, q⟩
theorem s_expr (hs : swapsWith e none pos.line X.env = pure false := by rfl) (h : WE X e σ H fun _ H1 => D.nx σ H1) : WS X (.Expr e pos) D σ H := ⟨_, ps_expr WE.pe hs, h⟩
theorem s_ret (h : WE X e σ H D.rt) : WS X (.Return (some e) pos) D σ H := ⟨_, ps_ret WE.pe, h⟩
theorem s_retN (h : D.rt .non H) : WS X (.Return none pos) D σ H := ⟨_, ps_retN, h⟩
theorem s_if (h : WT X c σ H fun k H1 => if k = true then WSs X body D σ H1 else WSs X orelse D σ H1) : WS X (.If c body orelse pos) D σ H := ⟨_, ps_if WT.pt WSs.pss WSs.pss, h⟩
theorem s_set (i : Nat) (hN : X.N.Nodup) (hi : X.N[i]? = some x := by rfl) (hx : Loc X.env.scope x := by first | exact Or.inl rfl | exact Or.inr rfl) (hs : swapsWith e (some (.Name x p2)) pos.line X.env = pure false := by rfl)
    (hf : X.fn x = true ∨ X.env.scope.names.lookup x = some .local := by first | exact .inl rfl | exact .inr rfl | assumption) (h : WE X e σ H fun v H1 => D.nx (σ.set i (some v)) H1) : WS X (.Assign [.Name x p2] e pos) D σ H := ⟨_, ps_set hN hi hx WE.pe hs hf, h⟩
theorem s_asg {tg : Expr} (hs : swapsWithSole [tg] e pos.line X.env = pure false := by rfl) (hw : swappedStores [tg] e X.env = pure none := by rfl) (h1 : (assignEach [tg] X.env).map (·.2) = [assign tg X.env] := by rfl)
    (h : WE X e σ H fun v H1 => WG X tg v σ H1 D.nx) : WS X (.Assign [tg] e pos) D σ H := ⟨_, ps_asg WE.pe WG.pg hs hw h1, h⟩
theorem s_par (i j : Nat) {x y : Str} {px py pt : Pos} {kt k2 pt2} (hN : X.N.Nodup) (hij : i ≠ j := by decide) (hc : X.calm = true := by rfl) (hi : X.N[i]? = some x := by rfl) (hj : X.N[j]? = some y := by rfl)
    (hx : X.env.scope.names.lookup x = some .local := by rfl) (hy : X.env.scope.names.lookup y = some .local := by rfl) (hw : swappedStores [.Tuple [.Name x px, .Name y py] kt pt] (.Tuple [a, b] k2 pt2) X.env = pure (some [x, y]) := by rfl)
    (hs : swapsWithSole [.Tuple [.Name x px, .Name y py] kt pt] (.Tuple [a, b] k2 pt2) pos.line X.env = pure false := by rfl)
    (h : WA X [a, b] σ H fun vs H1 => ∃ v w, vs = [v, w] ∧ D.nx ((σ.set i (some v)).set j (some w)) H1) : WS X (.Assign [.Tuple [.Name x px, .Name y py] kt pt] (.Tuple [a, b] k2 pt2) pos) D σ H := ⟨_, ps_par hc hN hi hj hij hx hy WA.pa hw hs, h⟩
theorem s_never (h : False) : WS X st D σ H := h.elim
theorem s_fld {f : Str} {o value : Expr} {pos' : Pos} (hs : swapsWith value (some (.Attribute o f pos')) pos.line X.env = pure false := by rfl) (h : sFld X.K (WE X o) (WE X value) f D σ H) : WS X (.Assign [.Attribute o f pos'] value pos) D σ H := ⟨_, ps_fld WE.pe WE.pe hs, h⟩
theorem s_sub {o i value : Expr} {spos : Pos} (h : WE X value σ H fun v H1 => WE X o σ H1 fun ov H2 => WE X i σ H2 fun iv H3 => ∃ p xs k j, ov = .ref p ∧ iv = .int k ∧ H3 p = some (.lst xs) ∧ ixN xs.length k = some j ∧ D.nx σ (upd H3 p (.lst (xs.set j v))))
    (ha : ∀ v, assign (.Subscript o i spos) X.env v = (do
      let ov ← holding [v] (eval o X.env)
      let iv ← holding [v, ov] (eval i X.env)
      standAt spos
      holding [v, ov, iv] (setItem ov iv v)
      release [v, ov, iv] []) := by intro _; rfl)
    (hs : swapsWithSole [.Subscript o i spos] value pos.line X.env = pure false := by rfl) (hw : swappedStores [.Subscript o i spos] value X.env = pure none := by rfl) (h1 : (assignEach [.Subscript o i spos] X.env).map (·.2) = [assign (.Subscript o i spos) X.env] := by rfl) :
    WS X (.Assign [.Subscript o i spos] value pos) D σ H := ⟨_, ps_asg WE.pe (pg_sub WE.pe WE.pe set_list ha) hs hw h1, h⟩

/-! ### loops -/
variable {tg iter : Expr}
def tForR (J : It) (g : TG) (tb : TS) (D : Ends) (σ : L2.St) (H : Hp) : Prop := ∃ W : Nat → Nat → L2.St → Hp → Prop, (∃ m, W 0 m σ H) ∧ ∀ i m σ H, W i m σ H →
  (J.stop i H ∧ D.nx σ H) ∨ (J.go i H ∧ ∃ N : L2.St → Hp → Prop, (∀ σ' H', N σ' H' → ∃ m', m' < m ∧ W (i + 1) m' σ' H') ∧ ∀ x H', J.yld i H x H' → g x σ H' fun σ2 H2 => tb { D with nx := N, ct := N, bk := D.nx } σ2 H2)
theorem s_for (hp : PassesOwn (model X.prog X.w) X.A X.env X.xe := by exact PassesOwn.never) (hc : X.calm = true := by rfl) (hs : ∀ x, foldedSetIterable iter X.env x = pure x := by intro _; rfl)
    (h : WI X tg iter σ H fun J H1 => tForR J (WG X tg) (WSs X body) D σ H1) : WS X (.For tg iter body [] pos) D σ H := ⟨_, ps_for hp hc WI.pi WG.pg WSs.pss hs, h⟩
variable {R : It → Hp → Prop}
theorem i_list (h : WE X e σ H fun x H1 => ∃ a, x = .ref a ∧ (∃ xs, SqL X.K H1 a xs) ∧ R (Itl X.K a) H1) : WI X tg e σ H R := ⟨_, pi_list WE.pe, h⟩
theorem i_tup (h : WE X e σ H fun x H1 => ∃ a, x = .ref a ∧ (∃ xs, SqT X.K H1 a xs) ∧ R (Itt X.K a) H1) : WI X tg e σ H R := ⟨_, pi_tup WE.pe, h⟩
theorem i_rng1 (hm : X.mg "range" = none) (hg : Gl X "range" := by rfl) (hs : starEach [a] X.env = [(false, eval a X.env)] := by rfl) (h : WE X a σ H fun x H1 => ∃ j : Int, x = .int j ∧ -(2 ^ 62) ≤ j ∧ j < 2 ^ 62 ∧ R (Itr 0 j.toNat) H1) : WI X tg (.Call (.Name "range" p2) [a] [] pos) σ H R :=
  ⟨_, pi_range1 hg hm (pa_cons WE.pe pa_nil (by rw [hs]; rfl)) hs, by
    obtain ⟨t, h1, h2⟩ := h
    show WE X a σ H fun x H1 => ∃ j : Int, [x] = [.int j] ∧ -(2 ^ 62) ≤ j ∧ j < 2 ^ 62 ∧ R (Itr 0 j.toNat) H1
    have e : (fun (x : V) (H1 : Hp) => ∃ j : Int, [x] = [V.int j] ∧ -(2 ^ 62) ≤ j ∧ j < 2 ^ 62 ∧ R (Itr 0 j.toNat) H1) = (fun x H1 => ∃ j : Int, x = .int j ∧ -(2 ^ 62) ≤ j ∧ j < 2 ^ 62 ∧ R (Itr 0 j.toNat) H1) := by
      funext x H1
      simp only [List.cons.injEq, and_true]
    rw [e]
    exact ⟨t, h1, h2⟩⟩
theorem i_rng2 (hm : X.mg "range" = none) (hg : Gl X "range" := by rfl) (hs : starEach [a, b] X.env = [(false, eval a X.env), (false, eval b X.env)] := by rfl) (hs2 : starEach [b] X.env = [(false, eval b X.env)] := by rfl)
    (h : WA X [a, b] σ H fun vs H1 => ∃ i j : Int, vs = [.int i, .int j] ∧ (-(2 ^ 62) ≤ i ∧ i < 2 ^ 62 ∧ -(2 ^ 62) ≤ j ∧ j < 2 ^ 62) ∧ R (Itr i (j - i).toNat) H1) : WI X tg (.Call (.Name "range" p2) [a, b] [] pos) σ H R := ⟨_, pi_range2 hg hm WA.pa hs hs2, h⟩
theorem i_enum {elts : List Expr} {kk : Nat} {tpos : Pos} (hm : X.mg "enumerate" = none) (hg : Gl X "enumerate" := by rfl) (hs : starEach [a] X.env = [(false, eval a X.env)] := by rfl)
    (h : WA X [a] σ H fun vs H1 => ∃ p xs, vs = [.ref p] ∧ SqL X.K H1 p xs ∧ R (Ite X.K p) H1) : WI X (.Tuple elts kk tpos) (.Call (.Name "enumerate" p2) [a] [] pos) σ H R := ⟨_, pi_enum hg hm WA.pa hs, h⟩
theorem i_zip {elts : List Expr} {kk : Nat} {tpos : Pos} (hm : X.mg "zip" = none) (hg : Gl X "zip" := by rfl) (hs : starEach [a, b] X.env = (false, eval a X.env) :: starEach [b] X.env := by rfl) (hpl : (backTo pos (starEach [b] X.env)).any (·.1) = false := by rfl)
    (h : WA X [a, b] σ H fun vs H1 => ∃ p q xs ys, vs = [.ref p, .ref q] ∧ SqL X.K H1 p xs ∧ SqL X.K H1 q ys ∧ R (Itz X.K p q) H1) : WI X (.Tuple elts kk tpos) (.Call (.Name "zip" p2) [a, b] [] pos) σ H R := ⟨_, pi_zip hg hm WA.pa hs hpl, h⟩

/-! ### comprehensions: the block's rules are left open, too -/
def GBlk (X : Cx) (scope : Scope) (tg : Expr) : TG := fun v σ H Q => ∀ (s : Shared) (H0 : Hp) (C : Addr) (cl : List (Str × Addr)) (fp : List Addr), WG (X.blk s H0 scope (compEnvC scope cl C X.env) fp) tg v σ H Q
def TBlk (X : Cx) (scope : Scope) (ifs : List Expr) : TT := fun σ H Q => ∀ (s : Shared) (H0 : Hp) (C : Addr) (cl : List (Str × Addr)) (fp : List Addr), WTs (X.blk s H0 scope (compEnvC scope cl C X.env) fp) ifs σ H Q
def EBlk (X : Cx) (scope : Scope) (elt : Expr) : TE := fun σ H Q => ∀ (s : Shared) (H0 : Hp) (C : Addr) (cl : List (Str × Addr)) (fp : List Addr), WE (X.blk s H0 scope (compEnvC scope cl C X.env) fp) elt σ H Q
def tLcR (J : It) (g : TG) (tt : TT) (te : TE) (vs : List Nat) (σ : L2.St) (H1 : Hp) (D : Addr) (Qd : Hp → Prop) : Prop := ∃ W : Nat → Nat → Hp → Prop, (∃ m, W 0 m (upd H1 D (.lst []))) ∧ ∀ i m H, W i m H →
  (J.stop i H ∧ Qd H) ∨ (J.go i H ∧ ∃ Nx : Hp → Prop, (∀ H', Nx H' → ∃ m', m' < m ∧ W (i + 1) m' H') ∧ ∀ x H', J.yld i H x H' → g x (wipe σ vs) H' fun σ2 H2 => wipe σ2 vs = wipe σ vs ∧ tt σ2 H2 fun b H3 =>
    if b = true then te σ2 H3 fun y H4 => ∃ acc, H4 D = some (.lst acc) ∧ acc.length < sizeLine ∧ Nx (upd H4 D (.lst (acc ++ [y]))) else Nx H3)
variable {elt : Expr} {ifs : List Expr} {scope : Scope}
theorem blk_g : ∀ (s : Shared) (H : Hp) (C : Addr) (cl : List (Str × Addr)) (fp : List Addr), PG (X.blk s H scope (compEnvC scope cl C X.env) fp) tg (GBlk X scope tg) := fun s H0 C cl fp => ⟨fun pins s' σ H v u Q I r h => WG.pg.run pins s' σ H v u Q I r (h s H0 C cl fp)⟩
theorem blk_t : ∀ (s : Shared) (H : Hp) (C : Addr) (cl : List (Str × Addr)) (fp : List Addr), PTs (X.blk s H scope (compEnvC scope cl C X.env) fp) ifs (TBlk X scope ifs) := fun s H0 C cl fp => ⟨fun pins s' σ H Q I h => WTs.pts.run pins s' σ H Q I (h s H0 C cl fp)⟩
theorem blk_e : ∀ (s : Shared) (H : Hp) (C : Addr) (cl : List (Str × Addr)) (fp : List Addr), PE (X.blk s H scope (compEnvC scope cl C X.env) fp) elt (EBlk X scope elt) := fun s H0 C cl fp => ⟨fun pins s' σ H Q I h => WE.pe.run pins s' σ H Q I (h s H0 C cl fp)⟩
theorem ts_nil (q : QT true H) : WTs X [] σ H QT := ⟨_, pts_nil, q⟩
theorem ts_one (h : WT X c σ H QT) : WTs X [c] σ H QT := ⟨_, pts_one WT.pt, h⟩
theorem e_lc (own : List (Str × Nat)) (hN : X.N.Nodup) (ok : BlkOk X.N X.env.scope scope own := by exact blkOk_by (by decide +kernel)) (hc : X.calm = true := by rfl) (hs : ∀ x, foldedSetIterable iter X.env x = pure x := by intro _; rfl)
    (h : WI X tg iter σ H fun J H1 => ∀ D, H1 D = none → tLcR J (GBlk X scope tg) (TBlk X scope ifs) (EBlk X scope elt) (own.map (·.2)) σ H1 D (Q (.ref D))) : WE X (.ListComp elt [⟨tg, iter, ifs, 0⟩] scope pos) σ H Q :=
  ⟨_, pe_lc hc hN WI.pi ok blk_g blk_t blk_e hs, h⟩
theorem s_setLc (i : Nat) (own : List (Str × Nat)) (hN : X.N.Nodup) {y : Str} (hy : X.N[i]? = some y := by rfl) (hyl : X.env.scope.names.lookup y = some .local := by rfl)
    (ok : BlkOk X.N X.env.scope scope own := by exact blkOk_by (by decide +kernel)) (hc : X.calm = true := by rfl) (hs : ∀ x, foldedSetIterable iter X.env x = pure x := by intro _; rfl)
    {spos : Pos} (hsw2 : swapsWith (.ListComp elt [⟨tg, iter, ifs, 0⟩] scope pos) (some (.Name y p2)) spos.line X.env = pure true := by exact sw_true rfl rfl rfl (by decide +kernel))
    (h : WI X tg iter σ H fun J H1 => ∀ D, H1 D = none → tLcR J (GBlk X scope tg) (TBlk X scope ifs) (EBlk X scope elt) (own.map (·.2)) σ H1 D (fun H2 => D'.nx (σ.set i (some (.ref D))) H2)) : WS X (.Assign [.Name y p2] (.ListComp elt [⟨tg, iter, ifs, 0⟩] scope pos) spos) D' σ H :=
  ⟨_, ps_setLc hc hN hy hyl hsw2 WI.pi ok blk_g blk_t blk_e hs, h⟩
end
end Lw
namespace Lw
open PySem PySem.Spec L2 Evl

/-! ### calls -/
/-- a def of the module that keeps a promise and lets nothing out -/
structure Cal (P : Program) (w : World) (K : PySem.W.Frag) (mg : Str → Option Value) (base : Heap) (x : Str) (k : Nat) (ps : List Str) (sp : Sp) : Prop where
  ex : ∃ f fd, FnOk P w K mg base CX0 k f fd ps sp ∧ mg x = some (.ref f) ∧ PySem.W.keepIn K (.ref f) = true ∧ Binds K fd ps []
/-- .. called by keywords alone -/
structure CalK (P : Program) (w : World) (K : PySem.W.Frag) (mg : Str → Option Value) (base : Heap) (x : Str) (k : Nat) (ps ks : List Str) (gV : List V → List V) (sp : Sp) : Prop where
  ex : ∃ f fd g, FnOk P w K mg base CX0 k f fd ps sp ∧ mg x = some (.ref f) ∧ PySem.W.keepIn K (.ref f) = true ∧ KBn K fd ps 0 ks g (fun _ zs => gV zs)
section
variable {X : Cx} {σ : L2.St} {H : Hp} {Q : VK} {a b c e o : Expr} {pos p2 apos : Pos} {x m : Str} {v : V} {es : List Expr} {k : Nat} {ps ks : List Str} {sp : Sp} {gV : List V → List V}
theorem e_call (cl : Cal X.prog X.w X.K X.mg X.base x k ps sp) (hr : Room k X.A) (hg : Gl X x := by rfl) (hdb : (x == ("__debug__" : Str)) = false := by decide) (he : starEach (e :: es) X.env = (false, eval e X.env) :: starEach es X.env := by rfl) (hpl : (backTo pos (starEach es X.env)).any (·.1) = false := by rfl)
    (h : WA X (e :: es) σ H fun vs H1 => sp vs H1 Q E0) : WE X (.Call (.Name x p2) (e :: es) [] pos) σ H Q := by
  obtain ⟨f, fd, F, hm, hk, hb⟩ := cl.ex
  refine ⟨_, pe_call F hr hg hm hk hb .nil pass0 WA.pa hdb he hpl, ?_⟩
  show WA X (e :: es) σ H fun vs H1 => sp (vs ++ []) H1 Q E0
  simp only [List.append_nil]
  exact h
theorem e_call0 (cl : Cal X.prog X.w X.K X.mg X.base x k ps sp) (hr : Room k X.A) (hg : Gl X x := by rfl) (hdb : (x == ("__debug__" : Str)) = false := by decide)
    (h : sp [] H Q E0) : WE X (.Call (.Name x p2) [] [] pos) σ H Q := by
  obtain ⟨f, fd, F, hm, hk, hb⟩ := cl.ex
  exact ⟨_, pe_call0 F hr hg hm hk hb .nil pass0 hdb, h⟩
theorem pe_callN0 {CX : CXT} {f : Addr} {fd : FuncData} {E : XK} {kws : List Keyword} {tk : TA} {g : List Value → List Value → List Value} {gW : List V → List V → List V} (F : FnOk X.prog X.w X.K X.mg X.base CX k f fd ps sp) (hr : Room k X.A) (hg : Gl X x) (hm : X.mg x = some (.ref f)) (hk : PySem.W.keepIn X.K (.ref f) = true) (hb : KBn X.K fd ps 0 ks g gW) (hx : Passes CX X E)
    (hkw : PK X kws tk) (hall : (backToKw pos (keywordEach kws X.env)).all (·.1.isSome) = true := by rfl) (hks : (backToKw pos (keywordEach kws X.env)).filterMap (·.1) = ks := by rfl)
    (hdb : (x == ("__debug__" : Str)) = false := by decide)
    (hpl : ((backTo pos (starEach [] X.env)).any (·.1) || (backToKw pos (keywordEach kws X.env)).any (·.1.isNone)) = false := by rfl) :
    PE X (.Call (.Name x p2) [] kws pos) (tCallN 0 ks.length sp gW E tNil tk) := by
  refine ⟨fun pins s σ H Q I h => ?_⟩
  refine wpAny_Call_Name_kw (ld_glob I hg hm ?_ hdb)
  refine PySem.W.callWith_KW0 (h₀ := X.base) I.ok.mod.kin hk hall ?_ hpl
  refine thn (hkw.run pos pins s σ H _ I h) fun ws s2 ⟨zs, H2, I2, rz, l1, l2, q2⟩ => ⟨I2.kIn, ?_⟩
  rw [hks]
  exact run_fnN (us := []) (vs := []) F hr hb hx I2 .nil rz rfl l2 q2
theorem e_callK {kws : List Keyword} (cl : CalK X.prog X.w X.K X.mg X.base x k ps ks gV sp) (hr : Room k X.A) (hg : Gl X x := by rfl) (hdb : (x == ("__debug__" : Str)) = false := by decide)
    (hall : (backToKw pos (keywordEach kws X.env)).all (·.1.isSome) = true := by rfl) (hks : (backToKw pos (keywordEach kws X.env)).filterMap (·.1) = ks := by rfl)
    (hpl : ((backTo pos (starEach [] X.env)).any (·.1) || (backToKw pos (keywordEach kws X.env)).any (·.1.isNone)) = false := by rfl)
    (h : WK X kws σ H fun zs H1 => ([] : List V).length = 0 ∧ zs.length = ks.length ∧ sp (gV zs) H1 Q E0) : WE X (.Call (.Name x p2) [] kws pos) σ H Q := by
  obtain ⟨f, fd, g, F, hm, hk, hb⟩ := cl.ex
  exact ⟨_, pe_callN0 F hr hg hm hk hb pass0 WK.pk hall hks hdb hpl, h⟩
end
/-- a method of the class at C | its __init__ | a property -/
structure CalM (P : Program) (w : World) (K : PySem.W.Frag) (mg : Str → Option Value) (base : Heap) (C : Addr) (m : Str) (k : Nat) (ps : List Str) (sp : Sp) : Prop where
  ex : ∃ f fd, FnOk P w K mg base CX0 k f fd ps sp ∧ Cls K C ∧ Meth K C m f ∧ Binds K fd ps []
structure CalI (P : Program) (w : World) (K : PySem.W.Frag) (mg : Str → Option Value) (base : Heap) (C : Addr) (x : Str) (k : Nat) (ps : List Str) (sp : Sp) : Prop where
  ex : ∃ f fd, FnOk P w K mg base CX0 k f fd ps sp ∧ mg x = some (.ref C) ∧ Mk K C f ∧ Binds K fd ps []
structure CalP (P : Program) (w : World) (K : PySem.W.Frag) (mg : Str → Option Value) (base : Heap) (C : Addr) (m : Str) (k : Nat) (sp : Sp) : Prop where
  ex : ∃ p g fd ps, FnOk P w K mg base CX0 k g fd ps sp ∧ Cls K C ∧ PropOf K C m p g ∧ Binds K fd ps []
section
variable {X : Cx} {σ : L2.St} {H : Hp} {Q : VK} {a b c e o : Expr} {pos p2 apos : Pos} {x m : Str} {v : V} {es : List Expr} {k : Nat} {ps ks : List Str} {sp : Sp} {C : Addr}
theorem e_meth {pl : Sem Bool} (cl : CalM X.prog X.w X.K X.mg X.base C m k ps sp) (hr : Room k X.A)
    (hst : starEach (e :: es) X.env = (false, eval e X.env) :: starEach es X.env := by rfl) (hpl : (backTo pos (starEach es X.env)).any (·.1) = false := by rfl)
    (ht : eval (.Call (.Attribute o m apos) (e :: es) [] pos) X.env = (do
      let ov ← eval o X.env
      standAt apos.atName
      let (f, first) ← holding [ov] (getMethod ov m pl)
      callWith pos f first (backTo pos (starEach (e :: es) X.env)) (backToKw pos (keywordEach [] X.env))) := by rfl)
    (h : WE X o σ H fun x H1 => ∃ a dx fs, x = .ref a ∧ H1 a = some (.ins C dx fs) ∧ fs.lookup m = none ∧ WA X (e :: es) σ H1 fun vs H2 => sp (x :: vs) H2 Q E0) : WE X (.Call (.Attribute o m apos) (e :: es) [] pos) σ H Q := by
  obtain ⟨f, fd, F, hc, hm, hb⟩ := cl.ex
  refine ⟨_, pe_meth (pl := pl) WE.pe hc hm F hr hb .nil pass0 WA.pa hst hpl ht, ?_⟩
  show WE X o σ H fun x H1 => ∃ a dx fs, x = .ref a ∧ H1 a = some (.ins C dx fs) ∧ fs.lookup m = none ∧ WA X (e :: es) σ H1 fun vs H2 => sp (x :: (vs ++ [])) H2 Q E0
  simp only [List.append_nil]
  exact h
theorem e_meth0 {pl : Sem Bool} (cl : CalM X.prog X.w X.K X.mg X.base C m k ps sp) (hr : Room k X.A)
    (ht : eval (.Call (.Attribute o m apos) [] [] pos) X.env = (do
      let ov ← eval o X.env
      standAt apos.atName
      let (f, first) ← holding [ov] (getMethod ov m pl)
      callWith pos f first (backTo pos (starEach [] X.env)) (backToKw pos (keywordEach [] X.env))) := by rfl)
    (h : WE X o σ H fun x H1 => ∃ a dx fs, x = .ref a ∧ H1 a = some (.ins C dx fs) ∧ fs.lookup m = none ∧ sp [x] H1 Q E0) : WE X (.Call (.Attribute o m apos) [] [] pos) σ H Q := by
  obtain ⟨f, fd, F, hc, hm, hb⟩ := cl.ex
  exact ⟨_, pe_meth0 (pl := pl) WE.pe hc hm F hr hb .nil pass0 ht, h⟩
theorem e_make (cl : CalI X.prog X.w X.K X.mg X.base C x k ps sp) (hr : Room (k + 1) X.A) (hg : Gl X x := by rfl) (hdb : (x == ("__debug__" : Str)) = false := by decide) (he : starEach (e :: es) X.env = (false, eval e X.env) :: starEach es X.env := by rfl) (hpl : (backTo pos (starEach es X.env)).any (·.1) = false := by rfl)
    (h : WA X (e :: es) σ H fun vs H1 => ∀ x dx, H1 x = none → H1 dx = none → dx ≠ x → sp (.ref x :: vs) (upd (upd H1 dx (.own x)) x (.ins C dx [])) (fun v H2 => v = .non ∧ Q (.ref x) H2) E0) : WE X (.Call (.Name x p2) (e :: es) [] pos) σ H Q := by
  obtain ⟨f, fd, F, hm, hM, hb⟩ := cl.ex
  refine ⟨_, pe_make hM F hr hg hm hb .nil pass0 WA.pa hdb he hpl, ?_⟩
  show WA X (e :: es) σ H fun vs H1 => ∀ x dx, H1 x = none → H1 dx = none → dx ≠ x → sp (.ref x :: (vs ++ [])) (upd (upd H1 dx (.own x)) x (.ins C dx [])) (fun v H2 => v = .non ∧ Q (.ref x) H2) E0
  simp only [List.append_nil]
  exact h
theorem e_prop (cl : CalP X.prog X.w X.K X.mg X.base C m k sp) (hr : Room (k + 1) X.A) (hab : attributeBase e m X.env (eval e X.env) = eval e X.env := by rfl)
    (h : WE X e σ H fun x H1 => ∃ a dx fs, x = .ref a ∧ H1 a = some (.ins C dx fs) ∧ sp [.ref a] H1 Q E0) : WE X (.Attribute e m pos) σ H Q := by
  obtain ⟨p, g, fd, ps, F, hc, hp, hb⟩ := cl.ex
  exact ⟨_, pe_prop WE.pe hc hp F hr hb .nil pass0 hab, h⟩
end

/-! ### what is known, and what grows -/
abbrev M0 : Addr → Prop := fun _ => False
/-- B: objects that nobody changes any more; H: all that is tracked. Those in M may change -/
structure Gr (M : Addr → Prop) (B H B' H' : Hp) : Prop where
  b : Ex B B'
  k : Ex B' H'
  h : ∀ a o, ¬ M a → H a = some o → H' a = some o
  n : ∀ a, H a ≠ none → H' a ≠ none
  f : ∀ a, B a = none → H a ≠ none → B' a = none
section
variable {M : Addr → Prop} {B H B1 H1 B2 H2 : Hp} {p : Addr} {o : HO}
theorem Gr.refl (k : Ex B H) : Gr M B H B H := ⟨.refl B, k, fun _ _ _ h => h, fun _ h => h, fun _ h _ => h⟩
theorem Gr.trans (x : Gr M B H B1 H1) (y : Gr M B1 H1 B2 H2) : Gr M B H B2 H2 :=
  ⟨x.b.trans y.b, y.k, fun a o m h => y.h a o m (x.h a o m h), fun a h => y.n a (x.n a h), fun a h1 h2 => y.f a (x.f a h1 h2) (x.n a h2)⟩
theorem Gr.weak {M' : Addr → Prop} (x : Gr M B H B1 H1) (h : ∀ a, M a → M' a) : Gr M' B H B1 H1 := ⟨x.b, x.k, fun a o m => x.h a o fun z => m (h a z), x.n, x.f⟩
theorem Gr.up (x : Gr M0 B H B1 H1) : Gr M B H B1 H1 := x.weak fun _ z => z.elim
theorem Gr.ex (x : Gr M0 B H B1 H1) : Ex H H1 := fun a o h => x.h a o (fun z => z) h
theorem none_of_ex (k : Ex B H) (h : H p = none) : B p = none := fresh_back k h
theorem Gr.free (x : Gr M B H B1 H1) (h : H1 p = none) : H p = none := by
  cases q : H p with
  | none => rfl
  | some o => exact absurd h (x.n p (by rw [q]; exact fun z => nomatch z))
theorem upd_none {a : Addr} (h : upd H p o a = none) : H a = none := by
  unfold upd at h
  split at h
  · cases h
  · exact h
theorem upd_nn {a : Addr} (h : H a ≠ none) : upd H p o a ≠ none := fun z => h (upd_none z)
/-- a new object, the owner's -/
theorem Gr.own (x : Gr M B H B1 H1) (hp : H1 p = none) : Gr M B H B1 (upd H1 p o) :=
  ⟨x.b, x.k.trans (Ex.new hp), fun a u m h => by rw [upd_ne (ne_of_none (x.h a u m h) hp)]; exact x.h a u m h, fun a h => upd_nn (x.n a h), x.f⟩
/-- a new object that stays -/
theorem Gr.new (x : Gr M B H B1 H1) (hp : H1 p = none) : Gr M B H (upd B1 p o) (upd H1 p o) := by
  have hb := none_of_ex x.k hp
  refine ⟨x.b.trans (Ex.new hb), fun a u h => ?_, (x.own hp).h, (x.own hp).n, fun a h1 h2 => ?_⟩
  · by_cases e : a = p
    · subst e
      rw [upd_same] at h ⊢
      exact h
    · rw [upd_ne e] at h ⊢
      exact x.k a u h
  · have ne : a ≠ p := fun e => x.n a h2 (e ▸ hp)
    rw [upd_ne ne]
    exact x.f a h1 h2
/-- what the owner does not change any more -/
theorem Gr.learn (x : Gr M B H B1 H1) (h0 : H p = none) (hb : B1 p = none) (hp : H1 p = some o) : Gr M B H (upd B1 p o) H1 := by
  refine ⟨x.b.trans (Ex.new hb), fun a u h => ?_, x.h, x.n, fun a h1 h2 => ?_⟩
  · by_cases e : a = p
    · subst e
      rw [upd_same] at h
      cases h
      exact hp
    · rw [upd_ne e] at h
      exact x.k a u h
  · have ne : a ≠ p := fun e => h2 (e ▸ h0)
    rw [upd_ne ne]
    exact x.f a h1 h2
/-- the owner changes its own -/
theorem Gr.mut (x : Gr M B H B1 H1) (h0 : M p ∨ H p = none) (hb : B1 p = none) : Gr M B H B1 (upd H1 p o) := by
  refine ⟨x.b, fun a u h => ?_, fun a u m h => ?_, fun a h => upd_nn (x.n a h), x.f⟩
  · have ne : a ≠ p := fun e => by rw [e, hb] at h; cases h
    rw [upd_ne ne]
    exact x.k a u h
  · have ne : a ≠ p := fun e => by
      subst e
      rcases h0 with z | z
      · exact m z
      · rw [z] at h; cases h
    rw [upd_ne ne]
    exact x.h a u m h
end

/-! ### data -/
class Dat (α : Type) [DecidableEq α] where
  toD : α → PyData
  lay : ∀ a, (toD a).canLay0 = true
  eqv : ∀ a b, PyData.eqv (toD a) (toD b) = decide (a = b)
  dep : Nat
  dep_le : ∀ a, (toD a).depth ≤ dep
theorem beq_dec {α : Type} [BEq α] [LawfulBEq α] [DecidableEq α] (a b : α) : (a == b) = decide (a = b) := by
  rw [Bool.eq_iff_iff, beq_iff_eq, decide_eq_true_eq]
instance : Dat Int where
  toD := .int
  lay _ := rfl
  eqv a b := by simp only [PyData.eqv]; exact beq_dec a b
  dep := 0
  dep_le _ := Nat.le_refl _
instance : Dat Bool where
  toD := .bool
  lay _ := rfl
  eqv a b := by simp only [PyData.eqv]; exact beq_dec a b
  dep := 0
  dep_le _ := Nat.le_refl _
instance : Dat (Option Int) where
  toD
    | .none => .none
    | .some i => .int i
  lay a := by cases a <;> rfl
  eqv a b := by
    cases a <;> cases b <;> simp only [PyData.eqv]
    · rfl
    · rfl
    · rfl
    · rw [beq_dec]
      exact decide_eq_decide.mpr ⟨fun e => by rw [e], fun e => Option.some.inj e⟩
  dep := 0
  dep_le a := by cases a <;> exact Nat.le_refl _
section
variable {α β : Type} [DecidableEq α] [Dat α] [DecidableEq β] [Dat β]
theorem layAll_map : ∀ xs : List α, PyData.canLayAll0 (xs.map Dat.toD) = true
  | [] => rfl
  | x :: xs => by
    rw [List.map_cons, PyData.canLayAll0, Dat.lay x, layAll_map xs]
    rfl
theorem depAll_map : ∀ xs : List α, PyData.depthAll (xs.map Dat.toD) ≤ Dat.dep α
  | [] => Nat.zero_le _
  | x :: xs => by
    rw [List.map_cons, PyData.depthAll]
    exact Nat.max_le.mpr ⟨Dat.dep_le x, depAll_map xs⟩
theorem eqvAll_dat : ∀ xs ys : List α, PyData.eqvAll (xs.map Dat.toD) (ys.map Dat.toD) = decide (xs = ys)
  | [], [] => by simp only [List.map_nil, PyData.eqvAll, decide_true]
  | [], _ :: _ => by simp [PyData.eqvAll]
  | _ :: _, [] => by simp [PyData.eqvAll]
  | x :: xs, y :: ys => by
    rw [List.map_cons, List.map_cons, PyData.eqvAll, Dat.eqv x y, eqvAll_dat xs ys, ← Bool.decide_and]
    exact decide_eq_decide.mpr (by rw [List.cons.injEq])
instance : Dat (List α) where
  toD xs := .list (xs.map Dat.toD)
  lay xs := by simp only [PyData.canLay0]; exact layAll_map xs
  eqv xs ys := by simp only [PyData.eqv]; exact eqvAll_dat xs ys
  dep := Dat.dep α + 1
  dep_le xs := by simp only [PyData.depth]; exact Nat.succ_le_succ (depAll_map xs)
instance : Dat (α × β) where
  toD p := .tuple [Dat.toD p.1, Dat.toD p.2]
  lay p := by simp only [PyData.canLay0, PyData.canLayAll0, Dat.lay, Bool.and_self]
  eqv p q := by
    simp only [PyData.eqv, PyData.eqvAll]
    rw [Dat.eqv, Dat.eqv, Bool.and_true, ← Bool.decide_and]
    exact decide_eq_decide.mpr ⟨fun e => Prod.ext e.1 e.2, fun e => by rw [e]; exact ⟨rfl, rfl⟩⟩
  dep := max (Dat.dep α) (Dat.dep β) + 1
  dep_le p := by
    simp only [PyData.depth, PyData.depthAll]
    exact Nat.succ_le_succ (Nat.max_le.mpr ⟨Nat.le_trans (Dat.dep_le p.1) (Nat.le_max_left _ _), Nat.max_le.mpr ⟨Nat.le_trans (Dat.dep_le p.2) (Nat.le_max_right _ _), Nat.zero_le _⟩⟩)
end
mutual
theorem Dp.mono {K : PySem.W.Frag} {B B' : Hp} (e : Ex B B') : ∀ {v : V} {d : PyData}, Dp K B v d → Dp K B' v d
  | _, _, .non => .non
  | _, _, .bl b => .bl b
  | _, _, .int b => .int b
  | _, _, .str b => .str b
  | _, _, .lst h a => .lst (ex_l e h) (DpAll.mono e a)
  | _, _, .tup h a => .tup (ex_t e h) (DpAll.mono e a)
theorem DpAll.mono {K : PySem.W.Frag} {B B' : Hp} (e : Ex B B') : ∀ {vs : List V} {ds : List PyData}, DpAll K B vs ds → DpAll K B' vs ds
  | _, _, .nil => .nil
  | _, _, .cons h a => .cons (Dp.mono e h) (DpAll.mono e a)
end
/-- v is x, as B tells -/
def Dt {α : Type} [DecidableEq α] [Dat α] (K : PySem.W.Frag) (B : Hp) (v : V) (x : α) : Prop := Dp K B v (Dat.toD x)
def Das {α : Type} [DecidableEq α] [Dat α] (K : PySem.W.Frag) (B : Hp) (vs : List V) (xs : List α) : Prop := DpAll K B vs (xs.map Dat.toD)
section
variable {α β : Type} [DecidableEq α] [Dat α] [DecidableEq β] [Dat β] {K : PySem.W.Frag} {B B' H : Hp} {v w : V} {vs ws : List V}
theorem Dt.mono {x : α} (e : Ex B B') (h : Dt K B v x) : Dt K B' v x := Dp.mono e h
theorem Das.mono {xs : List α} (e : Ex B B') (h : Das K B vs xs) : Das K B' vs xs := DpAll.mono e h
theorem dt_int {i : Int} (h : Dt K B v i) : v = .int i := by
  unfold Dt at h
  cases h
  rfl
theorem dt_bl {i : Bool} (h : Dt K B v i) : v = .bl i := by
  unfold Dt at h
  cases h
  rfl
theorem dt_none (h : Dt K B v (none : Option Int)) : v = .non := by
  unfold Dt at h
  cases h
  rfl
theorem dt_some {i : Int} (h : Dt K B v (some i)) : v = .int i := by
  unfold Dt at h
  cases h
  rfl
theorem dtI (i : Int) : Dt K B (.int i) i := Dp.int i
theorem dtB (i : Bool) : Dt K B (.bl i) i := Dp.bl i
theorem dtN : Dt K B .non (none : Option Int) := Dp.non
theorem dtS (i : Int) : Dt K B (.int i) (some i) := Dp.int i
theorem dt_list {xs : List α} (h : Dt K B v xs) : ∃ a vs, v = .ref a ∧ SqL K B a vs ∧ Das K B vs xs := by
  unfold Dt at h
  cases h with
  | lst h1 h2 => exact ⟨_, _, rfl, h1, h2⟩
theorem dtL {a : Addr} {xs : List α} (h : SqL K B a vs) (hs : Das K B vs xs) : Dt K B (.ref a) xs := Dp.lst h hs
theorem dt_pair {x : α × β} (h : Dt K B v x) : ∃ a y z, v = .ref a ∧ SqT K B a [y, z] ∧ Dt K B y x.1 ∧ Dt K B z x.2 := by
  unfold Dt at h
  cases h with
  | tup h1 h2 =>
    cases h2 with
    | cons a b =>
      cases b with
      | cons c d =>
        cases d
        exact ⟨_, _, _, rfl, h1, a, c⟩
theorem dtP {a : Addr} {y z : V} {p : α} {q : β} (h : SqT K B a [y, z]) (h1 : Dt K B y p) (h2 : Dt K B z q) : Dt K B (.ref a) (p, q) := Dp.tup h (.cons h1 (.cons h2 .nil))
theorem Das.nil : Das K B [] ([] : List α) := DpAll.nil
theorem Das.cons {x : α} {xs : List α} (h : Dt K B v x) (hs : Das K B vs xs) : Das K B (v :: vs) (x :: xs) := DpAll.cons h hs
theorem Das.len : ∀ {vs : List V} {xs : List α}, Das K B vs xs → vs.length = xs.length
  | [], [], _ => rfl
  | [], _ :: _, h => by cases h
  | _ :: _, [], h => by cases h
  | _ :: vs, _ :: xs, h => by
    cases h with
    | cons h hs =>
      rw [List.length_cons, List.length_cons, Das.len (show Das K B vs xs from hs)]
theorem Das.get : ∀ {vs : List V} {xs : List α} {i : Nat} {v : V}, Das K B vs xs → vs[i]? = some v → ∃ x, xs[i]? = some x ∧ Dt K B v x
  | [], _, _, _, _, e => by simp at e
  | _ :: _, [], _, _, h, _ => by cases h
  | u :: vs, x :: xs, 0, v, h, e => by
    cases h with
    | cons h hs =>
      have e' : u = v := by simpa using e
      subst e'
      exact ⟨x, rfl, h⟩
  | u :: vs, x :: xs, i + 1, v, h, e => by
    cases h with
    | cons h hs => exact Das.get (i := i) (show Das K B vs xs from hs) (by simpa using e)
theorem Das.at {xs : List α} {i : Nat} {x : α} (h : Das K B vs xs) (e : xs[i]? = some x) : ∃ v, vs[i]? = some v ∧ Dt K B v x := by
  have hl := h.len
  have hi : i < xs.length := (List.getElem?_eq_some_iff.mp e).1
  have hv : vs[i]? = some (vs[i]'(by omega)) := List.getElem?_eq_getElem (by omega)
  obtain ⟨y, e2, d⟩ := h.get hv
  rw [e] at e2
  cases e2
  exact ⟨_, hv, d⟩
theorem Das.app : ∀ {vs : List V} {xs : List α} {ws : List V} {ys : List α}, Das K B vs xs → Das K B ws ys → Das K B (vs ++ ws) (xs ++ ys)
  | [], [], _, _, _, k => k
  | [], _ :: _, _, _, h, _ => by cases h
  | _ :: _, [], _, _, h, _ => by cases h
  | _ :: vs, _ :: xs, _, _, h, k => by
    cases h with
    | cons h hs => exact .cons h (Das.app (show Das K B vs xs from hs) k)
theorem Das.snoc {x : α} {xs : List α} (hs : Das K B vs xs) (h : Dt K B v x) : Das K B (vs ++ [v]) (xs ++ [x]) := hs.app (.cons h .nil)
theorem das_ints : ∀ {ns : List Int}, Das K B (ns.map V.int) ns
  | [] => .nil
  | n :: ns => .cons (dtI n) das_ints
theorem Das.ints : ∀ {vs : List V} {ns : List Int}, Das K B vs ns → vs = ns.map V.int
  | [], [], _ => rfl
  | [], _ :: _, h => by cases h
  | _ :: _, [], h => by cases h
  | v :: vs, n :: ns, h => by
    cases h with
    | cons h hs =>
      rw [List.map_cons, dt_int (show Dt K B v n from h), Das.ints (show Das K B vs ns from hs)]
/-- == and != of data -/
theorem eq_dat {x y : α} {H : Hp} {Q : VK} (hx : Dt K B v x) (hy : Dt K B w y) (k : Ex B H) (hd : Dat.dep α ≤ 64) (q : Q (.bl (decide (x = y))) H) : rEqD K v w H Q :=
  ⟨_, _, Dp.mono k hx, Dp.mono k hy, by unfold SeqAt.shaped; rw [Dat.lay, Bool.true_and]; exact decide_eq_true (Nat.le_trans (Dat.dep_le x) hd), by unfold SeqAt.shaped; rw [Dat.lay, Bool.true_and]; exact decide_eq_true (Nat.le_trans (Dat.dep_le y) hd), by rw [Dat.eqv]; exact q⟩
theorem ne_dat {x y : α} {H : Hp} {Q : VK} (hx : Dt K B v x) (hy : Dt K B w y) (k : Ex B H) (hd : Dat.dep α ≤ 64) (q : Q (.bl (!decide (x = y))) H) : rNeD K v w H Q :=
  ⟨_, _, Dp.mono k hx, Dp.mono k hy, by unfold SeqAt.shaped; rw [Dat.lay, Bool.true_and]; exact decide_eq_true (Nat.le_trans (Dat.dep_le x) hd), by unfold SeqAt.shaped; rw [Dat.lay, Bool.true_and]; exact decide_eq_true (Nat.le_trans (Dat.dep_le y) hd), by rw [Dat.eqv]; exact q⟩
end
end Lw
namespace Lw
open PySem PySem.Spec L2 Evl

/-! ### comprehensions, with what is known -/
section
variable {J : It} {n : Nat} {G : Hp → Prop} {Y : Nat → Hp → V → Hp → Prop} {M : Addr → Prop} {B H1 : Hp} {g : TG} {tt : TT} {te : TE} {vs : List Nat} {σ : L2.St} {D : Addr} {Qd : Hp → Prop}
theorem lcB (w : Walk J n G Y) (S : Nat → Hp → Hp → List V → Prop) (k : Ex B H1) (hD : H1 D = none) (hM : ¬ M D)
    (h0 : S 0 B H1 []) (hst : ∀ i B' H' acc l, B' D = none → S i B' H' acc → S i B' (upd H' D (.lst l)) acc)
    (hG : ∀ i B' H' acc, i ≤ n → Gr M B H1 B' H' → S i B' H' acc → G H')
    (hs : ∀ i x B' H' H'' acc, i < n → Gr M B H1 B' H' → B' D = none → H' D = some (.lst acc) → S i B' H' acc → Y i H' x H'' →
      ∀ (KT : VK) (KF : Hp → Prop), (∀ y B4 H4, Gr M B' H' B4 H4 → acc.length < sizeLine → S (i + 1) B4 H4 (acc ++ [y]) → KT y H4) → (∀ B3 H3, Gr M B' H' B3 H3 → S (i + 1) B3 H3 acc → KF H3) →
      g x (wipe σ vs) H'' fun σ2 H2 => wipe σ2 vs = wipe σ vs ∧ tt σ2 H2 fun b H3 => if b = true then te σ2 H3 KT else KF H3)
    (hd : ∀ B' H' acc, Gr M B H1 B' H' → B' D = none → H' D = some (.lst acc) → S n B' H' acc → Qd H') : tLcR J g tt te vs σ H1 D Qd := by
  have g0 : Gr M B H1 B (upd H1 D (.lst [])) := (Gr.refl k).own hD
  refine lc_it w (fun i H => ∃ B' acc, Gr M B H1 B' H ∧ B' D = none ∧ H D = some (.lst acc) ∧ S i B' H acc) ⟨B, [], g0, none_of_ex k hD, upd_same, hst _ _ _ _ _ (none_of_ex k hD) h0⟩ (fun i H hi ⟨B', acc, g, _, _, s⟩ => hG i B' H acc hi g s) ?_ (fun H ⟨B', acc, g, b, e, s⟩ => hd B' H acc g b e s)
  rintro i x H H' hi ⟨B', acc, g, b, e, s⟩ y
  refine hs i x B' H H' acc hi g b e s y _ _ (fun y B4 H4 g4 hl s4 => ⟨acc, g4.h _ _ hM e, hl, B4, acc ++ [y], ?_, g4.f _ b (by rw [e]; exact fun z => nomatch z), upd_same, hst _ _ _ _ _ (g4.f _ b (by rw [e]; exact fun z => nomatch z)) s4⟩) fun B3 H3 g3 s3 => ⟨B3, acc, g.trans g3, g3.f _ b (by rw [e]; exact fun z => nomatch z), g3.h _ _ hM e, s3⟩
  exact (g.trans g4).mut (.inr hD) (g4.f _ b (by rw [e]; exact fun z => nomatch z))
/-- a list of data, from the items of xs -/
theorem lcF {K : PySem.W.Frag} {α β : Type} [DecidableEq β] [Dat β] {xs : List α} (f : α → Option β) (w : Walk J xs.length G Y) (k : Ex B H1) (hD : H1 D = none) (hz : xs.length < sizeLine)
    (hG : ∀ B' H', Gr M0 B H1 B' H' → G H')
    (hs : ∀ i a x B' H' H'', xs[i]? = some a → Gr M0 B H1 B' H' → Y i H' x H'' →
      ∀ (KT : VK) (KF : Hp → Prop), (∀ b y B4 H4, f a = some b → Gr M0 B' H' B4 H4 → Dt K B4 y b → KT y H4) → (∀ B3 H3, f a = none → Gr M0 B' H' B3 H3 → KF H3) →
      g x (wipe σ vs) H'' fun σ2 H2 => wipe σ2 vs = wipe σ vs ∧ tt σ2 H2 fun b H3 => if b = true then te σ2 H3 KT else KF H3)
    (hd : ∀ B' H' acc, Gr M0 B H1 B' H' → B' D = none → H' D = some (.lst acc) → Das K B' acc (xs.filterMap f) → Qd H') : tLcR J g tt te vs σ H1 D Qd := by
  refine lcB (M := M0) w (fun i B' _ acc => Das K B' acc ((xs.take i).filterMap f) ∧ acc.length ≤ i) k hD (fun z => z) ⟨by simpa using Das.nil, Nat.le_refl _⟩ (fun _ _ _ _ _ _ s => s) (fun i B' H' acc _ g _ => hG B' H' g) ?_ (fun B' H' acc g b e s => hd B' H' acc g b e (by simpa using s.1))
  intro i x B' H' H'' acc hi g b e s y KT KF kt kf
  have hx : xs[i]? = some xs[i] := List.getElem?_eq_getElem hi
  have e2 : xs.take (i + 1) = xs.take i ++ [xs[i]] := by rw [List.take_add_one, hx]; rfl
  refine hs i xs[i] x B' H' H'' hx g y KT KF (fun b y B4 H4 fb g4 d => kt y B4 H4 g4 (by omega) ⟨?_, by rw [List.length_append, List.length_singleton]; omega⟩) fun B3 H3 fb g3 => kf B3 H3 g3 ⟨?_, by omega⟩
  · rw [e2, List.filterMap_append, List.filterMap_cons, fb]
    exact (s.1.mono g4.b).snoc d
  · rw [e2, List.filterMap_append, List.filterMap_cons, fb]
    simpa using s.1.mono g3.b
end
section
variable {K : PySem.W.Frag} {B H1 : Hp} {g : TG} {tt : TT} {te : TE} {vs : List Nat} {σ : L2.St} {D : Addr} {Qd : Hp → Prop}
/-- over a list of data that stays -/
theorem lcL {α β : Type} [DecidableEq α] [Dat α] [DecidableEq β] [Dat β] {xs : List α} {a : Addr} {ws : List V} (f : α → Option β) (hL : SqL K B a ws) (hA : Das K B ws xs) (k : Ex B H1) (hD : H1 D = none) (hz : xs.length < sizeLine)
    (hs : ∀ (i : Nat) y x B' H', xs[i]? = some y → Dt K B' x y → Gr M0 B H1 B' H' →
      ∀ (KT : VK) (KF : Hp → Prop), (∀ b z B4 H4, f y = some b → Gr M0 B' H' B4 H4 → Dt K B4 z b → KT z H4) → (∀ B3 H3, f y = none → Gr M0 B' H' B3 H3 → KF H3) →
      g x (wipe σ vs) H' fun σ2 H2 => wipe σ2 vs = wipe σ vs ∧ tt σ2 H2 fun b H3 => if b = true then te σ2 H3 KT else KF H3)
    (hd : ∀ B' H' acc, Gr M0 B H1 B' H' → B' D = none → H' D = some (.lst acc) → Das K B' acc (xs.filterMap f) → Qd H') : tLcR (Itl K a) g tt te vs σ H1 D Qd := by
  have wk : Walk (Itl K a) xs.length (fun H => SqL K H a ws) (YAt ws) := by
    rw [← hA.len]
    exact walk_list
  refine lcF (K := K) f wk k hD hz (fun B' H' g => ex_l (g.b.trans g.k) hL) ?_ hd
  rintro i y x B' H' H'' hy g ⟨rfl, hx⟩ KT KF kt kf
  obtain ⟨y', e, d⟩ := hA.get hx
  rw [hy] at e
  cases e
  exact hs i y x B' H'' hy (d.mono g.b) g KT KF kt kf
/-- over a list of ints, whoever owns it -/
theorem lcI {β : Type} [DecidableEq β] [Dat β] {ns : List Int} {a : Addr} (f : Int → Option β) (hL : SqL K H1 a (ns.map V.int)) (k : Ex B H1) (hD : H1 D = none) (hz : ns.length < sizeLine)
    (hs : ∀ (i : Nat) y B' H', ns[i]? = some y → Gr M0 B H1 B' H' →
      ∀ (KT : VK) (KF : Hp → Prop), (∀ b z B4 H4, f y = some b → Gr M0 B' H' B4 H4 → Dt K B4 z b → KT z H4) → (∀ B3 H3, f y = none → Gr M0 B' H' B3 H3 → KF H3) →
      g (.int y) (wipe σ vs) H' fun σ2 H2 => wipe σ2 vs = wipe σ vs ∧ tt σ2 H2 fun b H3 => if b = true then te σ2 H3 KT else KF H3)
    (hd : ∀ B' H' acc, Gr M0 B H1 B' H' → B' D = none → H' D = some (.lst acc) → Das K B' acc (ns.filterMap f) → Qd H') : tLcR (Itl K a) g tt te vs σ H1 D Qd := by
  have wk : Walk (Itl K a) ns.length (fun H => SqL K H a (ns.map V.int)) (YAt (ns.map V.int)) := by
    have e := walk_list (K := K) (a := a) (xs := ns.map V.int)
    rw [List.length_map] at e
    exact e
  refine lcF (K := K) f wk k hD hz (fun B' H' g => ex_l g.ex hL) ?_ hd
  rintro i y x B' H' H'' hy g ⟨rfl, hx⟩ KT KF kt kf
  rw [List.getElem?_map, hy] at hx
  cases hx
  exact hs i y B' H'' hy g KT KF kt kf
/-- over range(n) -/
theorem lcR {β : Type} [DecidableEq β] [Dat β] {n : Nat} (f : Nat → Option β) (k : Ex B H1) (hD : H1 D = none) (hz : n < sizeLine)
    (hs : ∀ i B' H', i < n → Gr M0 B H1 B' H' →
      ∀ (KT : VK) (KF : Hp → Prop), (∀ b z B4 H4, f i = some b → Gr M0 B' H' B4 H4 → Dt K B4 z b → KT z H4) → (∀ B3 H3, f i = none → Gr M0 B' H' B3 H3 → KF H3) →
      g (.int (i : Nat)) (wipe σ vs) H' fun σ2 H2 => wipe σ2 vs = wipe σ vs ∧ tt σ2 H2 fun b H3 => if b = true then te σ2 H3 KT else KF H3)
    (hd : ∀ B' H' acc, Gr M0 B H1 B' H' → B' D = none → H' D = some (.lst acc) → Das K B' acc ((List.range n).filterMap f) → Qd H') : tLcR (Itr 0 n) g tt te vs σ H1 D Qd := by
  have wk : Walk (Itr 0 n) (List.range n).length (fun _ => True) (YFn fun i => .int (0 + i)) := by
    rw [List.length_range]
    exact walk_range
  refine lcF (K := K) f wk k hD (by rw [List.length_range]; exact hz) (fun _ _ _ => trivial) ?_ hd
  rintro i y x B' H' H'' hy gg ⟨rfl, rfl⟩ KT KF kt kf
  have hi : i < n := by
    have := (List.getElem?_eq_some_iff.mp hy).1
    rwa [List.length_range] at this
  rw [List.getElem?_range hi] at hy
  cases hy
  have e : (0 : Int) + (i : Nat) = (i : Nat) := Int.zero_add _
  show g (.int ((0 : Int) + (i : Nat))) _ _ _
  rw [e]
  exact hs i B' H'' hi gg KT KF kt kf
end
theorem Gr.made {B H B' H' : Hp} {x dx : Addr} {o1 o2 : HO} (g : Gr (fun a => a = x) B (upd (upd H dx o1) x o2) B' H') (hx : H x = none) (hd : H dx = none) : Gr M0 B H B' H' := by
  have e0 : Ex H (upd (upd H dx o1) x o2) := (Ex.new hd).mut hx
  refine ⟨g.b, g.k, fun a o _ h => g.h a o (ne_of_none h hx) (e0 a o h), fun a h => g.n a (upd_nn (upd_nn h)), fun a h1 h2 => g.f a h1 (upd_nn (upd_nn h2))⟩
theorem ifd {p A B : Prop} [Decidable p] (h1 : p → A) (h2 : ¬ p → B) : if decide p = true then A else B := by
  by_cases h : p
  · rw [if_pos (decide_eq_true h)]
    exact h1 h
  · rw [if_neg (by rw [decide_eq_true_eq]; exact h)]
    exact h2 h
theorem ifn {p A B : Prop} [Decidable p] (h1 : ¬ p → A) (h2 : p → B) : if (!decide p) = true then A else B := by
  by_cases h : p
  · rw [if_neg (by rw [decide_eq_true h]; decide)]
    exact h2 h
  · rw [if_pos (by rw [decide_eq_false h]; rfl)]
    exact h1 h
theorem ifb {b : Bool} {A B : Prop} (h1 : b = true → A) (h2 : b = false → B) : if b = true then A else B := by
  cases b with
  | true => exact (if_pos rfl).symm ▸ h1 rfl
  | false => rw [if_neg (by decide)]; exact h2 rfl
theorem ift {b : Bool} {A B : Prop} (e : b = true) (h : A) : if b = true then A else B := by rw [if_pos e]; exact h
theorem iff_ {b : Bool} {A B : Prop} (e : b = false) (h : B) : if b = true then A else B := by rw [if_neg (by rw [e]; decide)]; exact h
end Lw
namespace Lw
open PySem PySem.Spec PyProof.Rows L2 Evl
/-! ### len of an instance with its own __len__ -/
section
variable {X : Cx} {k : Nat} {C f : Addr} {fd : FuncData} {ps : List Str} {sp : Sp}
structure CalL (P : Program) (w : World) (K : PySem.W.Frag) (mg : Str → Option Value) (base : Heap) (C : Addr) (k : Nat) (ps : List Str) (sp : Sp) : Prop where
  ex : ∃ f fd, FnOk P w K mg base CX0 k f fd ps sp ∧ PySem.W.findIn K (.ref C) "__len__" = some (some (.ref f)) ∧ PySem.W.isFn K (.ref f) = true ∧ Binds K fd ps []
theorem call_lenOwn (cl : CalL X.prog X.w X.K X.mg X.base C k ps sp) (hr : Room (k + 1) X.A) :
    CallR X (.builtin "len") (fun xs H Q => ∃ a dx fs, xs = [.ref a] ∧ H a = some (.ins C dx fs) ∧ sp [.ref a] H (fun v H' => ∃ n : Int, v = .int n ∧ (0 ≤ n ∧ n < 2 ^ 63) ∧ Q (.int n) H') E0) := by
  obtain ⟨f, fd, F, hs, hf, hb⟩ := cl.ex
  intro pins s σ H xs us Q I r h
  obtain ⟨a, dx, fs, rfl, ea, h⟩ := h
  obtain ⟨u1, rfl, r1⟩ := vals1 r
  cases (show u1 = Value.ref a from r1)
  obtain ⟨mA, O, _⟩ := ins_get I.hok ea
  obtain ⟨od, J, _⟩ := O.look
  obtain ⟨m, hF⟩ := I.fr
  have hl := F.len _ _ _ _ h
  have r2 : Vals [V.ref a] [Value.ref a] := .cons rfl .nil
  refine PySem.W.len_K hF I.ok.mod.kin J hs hf ?_
  refine wpAny_call (codeAny_mono (F.run X.A.in1 X.stack s H ⟨[.ref a], []⟩ [.ref a] [.ref a] _ E0 hr.in1 I.env0.in1 (by
    have := hb s [.ref a] I.kIn (by simpa using hl)
    simpa using this) r2 h) fun rr s' hq => ?_)
  cases rr with
  | error e => exact False.elim (pass0 (X := X.nox) pins σ H s e s' (I.wish _) hq)
  | ok fl =>
    cases fl with
    | ret u =>
      obtain ⟨v, H', I3, rv, n, hv, hn, q⟩ := I.after hq
      subst hv
      obtain ⟨t, rfl⟩ := rv
      exact ⟨hn, ⟨.int n, H', I3.tok _, ⟨_, rfl⟩, q⟩⟩
    | next => exact False.elim hq
    | brk => exact False.elim hq
    | cont => exact False.elim hq
end
end Lw
namespace Lw
open PySem PySem.Spec L2 Evl
/-! ### a list of three ints from which is drawn -/
abbrev dk (x y z : Int) : HO := .lst [.int x, .int y, .int z]
def DeckAt (H : Hp) (d : Addr) : Prop := ∃ x y z, H d = some (dk x y z)
theorem DeckAt.nn {H : Hp} {d : Addr} (h : DeckAt H d) : H d ≠ none := by
  obtain ⟨x, y, z, e⟩ := h
  rw [e]
  exact fun z => nomatch z
theorem DeckAt.upd {H : Hp} {d D : Addr} {o : HO} (h : DeckAt H d) (n : d ≠ D) : DeckAt (upd H D o) d := by
  obtain ⟨x, y, z, e⟩ := h
  exact ⟨x, y, z, by rw [upd_ne n]; exact e⟩
theorem DeckAt.ne {H : Hp} {d D : Addr} (h : DeckAt H d) (n : H D = none) : d ≠ D := fun e => h.nn (e ▸ n)
theorem DeckAt.new {H : Hp} {d D : Addr} {o : HO} (h : DeckAt H d) (n : H D = none) : DeckAt (L2.upd H D o) d := h.upd (h.ne n)
theorem DeckAt.ex {H H' : Hp} {d : Addr} (h : DeckAt H d) (e : Ex H H') : DeckAt H' d := by
  obtain ⟨x, y, z, q⟩ := h
  exact ⟨x, y, z, e _ _ q⟩
theorem DeckAt.gr {B H B' H' : Hp} {d : Addr} (h : DeckAt H d) (g : Gr M0 B H B' H') : DeckAt H' d := h.ex g.ex
abbrev Md (d : Addr) : Addr → Prop := fun a => a = d
theorem Gr.deck {B H B' H' : Hp} {d : Addr} {x y z : Int} (g : Gr (Md d) B H B' H') (hb : B' d = none) : Gr (Md d) B H B' (upd H' d (dk x y z)) := g.mut (.inl rfl) hb
theorem Gr.bd {M : Addr → Prop} {B H B' H' : Hp} {d : Addr} (g : Gr M B H B' H') (hb : B d = none) (hd : H d ≠ none) : B' d = none := g.f d hb hd
/-- a deck and what is known beside it -/
structure Dk (B H : Hp) (d : Addr) : Prop where
  k : Ex B H
  b : B d = none
  at_ : DeckAt H d
theorem Dk.gr {B H B' H' : Hp} {d : Addr} (h : Dk B H d) (g : Gr M0 B H B' H') : Dk B' H' d := ⟨g.k, g.f d h.b h.at_.nn, h.at_.gr g⟩
theorem Dk.go {B H B' H' : Hp} {d : Addr} (h : Dk B H d) (g : Gr (Md d) B H B' H') (a : DeckAt H' d) : Dk B' H' d := ⟨g.k, g.f d h.b h.at_.nn, a⟩
theorem Dk.own {B H : Hp} {d p : Addr} {o : HO} (k : Dk B H d) (hp : H p = none) : Dk B (upd H p o) d := k.gr ((Gr.refl k.k).own hp)
theorem Dk.new {B H : Hp} {d p : Addr} {o : HO} (k : Dk B H d) (hp : H p = none) : Dk (L2.upd B p o) (L2.upd H p o) d := k.gr ((Gr.refl k.k).new hp)
section
variable {J : It} {n : Nat} {G : Hp → Prop} {Y : Nat → Hp → V → Hp → Prop} {B H1 : Hp} {g : TG} {tt : TT} {te : TE} {vs : List Nat} {σ : L2.St} {D d : Addr} {Qd : Hp → Prop}
/-- ints that are drawn -/
theorem lcInts (w : Walk J n G Y) (P : Int → Prop) (k : Dk B H1 d) (hD : H1 D = none) (hn : n < sizeLine)
    (hG : ∀ B' H', Gr (Md d) B H1 B' H' → Dk B' H' d → G H')
    (hs : ∀ i x B' H' H'', i < n → Gr (Md d) B H1 B' H' → Dk B' H' d → Y i H' x H'' → ∀ (KT : VK) (KF : Hp → Prop), (∀ z B4 H4, Gr (Md d) B' H' B4 H4 → Dk B4 H4 d → P z → KT (.int z) H4) →
      g x (wipe σ vs) H'' fun σ2 H2 => wipe σ2 vs = wipe σ vs ∧ tt σ2 H2 fun b H3 => if b = true then te σ2 H3 KT else KF H3)
    (hd : ∀ B' H' (ns : List Int), Gr (Md d) B H1 B' H' → Dk B' H' d → B' D = none → H' D = some (.lst (ns.map V.int)) → ns.length = n → (∀ z ∈ ns, P z) → Qd H') : tLcR J g tt te vs σ H1 D Qd := by
  have hdD : d ≠ D := k.at_.ne hD
  refine lcB (M := Md d) w (fun i B' H' acc => Dk B' H' d ∧ ∃ ns : List Int, acc = ns.map V.int ∧ ns.length = i ∧ ∀ z ∈ ns, P z) k.k hD (fun z => hdD z.symm) ⟨k, [], rfl, rfl, fun z hz => nomatch hz⟩ (fun i B' H' acc l hb ⟨⟨k1, k2, k3⟩, s⟩ => ⟨⟨fun a u e => by rw [upd_ne (ne_of_none e hb)]; exact k1 a u e, k2, k3.upd hdD⟩, s⟩) (fun i B' H' acc _ g s => hG B' H' g s.1) ?_ ?_
  · intro i x B' H' H'' acc hi g b e s y KT KF kt kf
    obtain ⟨dk', ns, rfl, hl, hp⟩ := s
    refine hs i x B' H' H'' hi g dk' y KT KF fun z B4 H4 g4 d4 pz => kt _ B4 H4 g4 (by rw [List.length_map]; omega) ⟨d4, ns ++ [z], by rw [List.map_append]; rfl, by rw [List.length_append, hl]; rfl, fun q hq => ?_⟩
    rcases List.mem_append.mp hq with h | h
    · exact hp q h
    · rw [List.mem_singleton.mp h]; exact pz
  · intro B' H' acc g b e s
    obtain ⟨dk', ns, rfl, hl, hp⟩ := s
    exact hd B' H' ns g dk' b e hl hp
end
section
variable {X : Cx} {σ : L2.St} {H : Hp} {Q : VK} {e o : Expr} {pos ap : Pos}
/-- a built-in type's method -/
theorem e_bm {T : String} {name : Str} {id : String} {r : V → List V → Hp → VK → Prop} {es : List Expr} (pa : PySem.PlainAttrs T) (slot : PySem.Slot T name id) (hty : typeOf (.builtin id) = pure (.type "method_descriptor")) (hm : MtR X id r)
    (h : WE X o σ H fun x H1 => tyV X.K T x H1 ∧ WA X (e :: es) σ H1 fun vs H2 => r x vs H2 Q) (hbase : attributeBase o name X.env (eval o X.env) = eval o X.env := by rfl)
    (hfew : ((backTo pos (starEach (e :: es) X.env)).all (fun x => !x.1) && (backToKw pos (keywordEach [] X.env)).all (fun x => x.1.isSome)
      && decide ((e :: es).length + ([] : List Keyword).length + (if ([] : List Keyword).isEmpty then 0 else 1) < 30)) = true := by rfl)
    (hline : (ap.endLine == pos.line) = true := by rfl) (hs : starEach (e :: es) X.env = (false, eval e X.env) :: starEach es X.env := by rfl) (hplain : (backTo pos (starEach es X.env)).any (·.1) = false := by rfl) : WE X (.Call (.Attribute o name ap) (e :: es) [] pos) σ H Q :=
  ⟨_, pe_bm pa slot hty hm WE.pe WA.pa hbase hfew hline hs hplain, h⟩
end
/-- what holds behind a statement, on all its ways -/
theorem s_join {X : Cx} {st : Stmt} {D : Ends} {σ : L2.St} {H : Hp} (P : L2.St → Hp → Prop) (h1 : WS X st { D with nx := P } σ H) (h2 : ∀ σ H, P σ H → D.nx σ H) : WS X st D σ H := by
  refine ⟨fun D σ H => ∃ P, WS X st { D with nx := P } σ H ∧ ∀ σ H, P σ H → D.nx σ H, ⟨fun pins s σ H D I h => ?_⟩, P, h1, h2⟩
  obtain ⟨P, h1, h2⟩ := h
  refine thn (WS.ps.run pins s σ H _ I h1) fun f s' q => ?_
  cases f with
  | next => obtain ⟨σ', H', I', q⟩ := q; exact ⟨σ', H', I', h2 _ _ q⟩
  | brk => exact q
  | cont => exact q
  | ret u => exact q
theorem walk_r0 {n : Nat} : Walk (Itr 0 n) n (fun _ => True) (fun i H x H' => H' = H ∧ x = .int (i : Nat)) :=
  (walk_range (lo := 0)).mono (fun _ h => h) fun i H x H' _ _ y => ⟨y.1, by rw [y.2]; show V.int (0 + (i : Nat)) = _; rw [Int.zero_add]⟩
end Lw
namespace Lw
open PySem PySem.W PySem.Calls PyProof.Rows Builtin
section
variable {prog : Program} {w : World} {A : Around} {E : Value → Shared → Prop} {s : Shared} {K : Frag} {x y C f : Addr} {ox oy : Obj} {od oe : Option Obj}
theorem ifBound_B {M : Model} {id : String} {name : Str} {args : List Value} {Q : Option Value → Shared → Prop} (X : K.In s.heap) (I : InstAt s.heap x ox C od) (hs : findIn K (.ref C) name = some (some (.builtin id)))
    (hb : ∀ self, bindSpecial (.builtin id) self = pure (.builtin id, [self])) (h : wpAny M A (call (.builtin id) (.ref x :: args)) (fun v => Q (some v)) E s) : wpAny M A (callSpecialIfBound? (.ref x) name args) Q E s := by
  simp only [callSpecialIfBound?, bindSpecialIfBound?]
  refine wpAny_holding (wpAny_bind (wpAny_bind (wpAny_bind (I.type.here ((looks_findIn X hs).here ?_)))))
  simp only [hb]
  refine wpAny_bind (wpAny_askSetting (wpAny_ite ?_))
  have fin : wpAny M A (call (.builtin id) ([.ref x] ++ args) >>= fun v => pure (some v)) Q E s := wpAny_bind (wpAny_mono h (fun v s' h' => wpAny_pure h') fun _ _ h' => h')
  split
  · exact wpAny_bind (wpAny_pure (wpAny_pure fin))
  · exact wpAny_tryCatch (wpAny_bind (wpAny_pure (wpAny_pure fin)))
theorem ne_own {Q : Value → Shared → Prop} (hu : A.units < cLine) (hu1 : A.in1.units < cLine) (X : K.In s.heap) (I : InstAt s.heap x ox C od) (J : InstAt s.heap y oy C oe)
    (hn : findIn K (.ref C) (cmpInfo .NotEq).2.1 = some (some (.builtin "object.__ne__"))) (hm : mroIn K C (.type "object") = some true) (he : findIn K (.ref C) "__eq__" = some (some (.ref f))) (hf : isFn K (.ref f) = true)
    (h : wpAny (model prog w) A.in1 (call (.ref f) [.ref x, .ref y]) (fun v s' => ∃ b, v = .bool b ∧ Q (.bool (!b)) s') E s) : wpAny (model prog w) A (richCompare .NotEq (.ref x) (.ref y)) Q E s := by
  have one : wpAny (model prog w) A (tryCompare (.ref x) (cmpInfo .NotEq).2.1 (.ref y)) (fun r s' => ∃ v, r = some v ∧ Q v s') E s := by
    unfold tryCompare
    refine wpAny_bind (ifBound_B X I hn PySem.F.slot_object_ne.bind ?_)
    refine wpAny_call (codeAny_call_builtin PySem.F.slot_object_ne.plain PySem.F.entry_object_ne (check_slot (i := "object.__ne__") (owner := "object") (n := "__ne__") (by decide +kernel) (by decide +kernel) (I.type.andThen (looks_mroIn X hm)) (PySem.F.args_object_ne_2 _ _) ?_))
    unfold Builtin.«object.__ne__»
    refine wpAny_bind (m := slotArgs "__ne__" 1 _) (wpAny_pure ?_)
    refine wpAny_bind (m := cRoomFor _ _) (wpAny_cRoomFor hu1 ?_)
    refine wpAny_bind (m := callSpecialIfBound? (.ref x) (Str.ofString "__eq__") _) (ifBound_K X I he hf (wpAny_mono h (fun r s' hr => ?_) fun _ _ e => e))
    obtain ⟨b, rfl, hq⟩ := hr
    refine wpAny_bind (m := truthy (.bool b)) (wpAny_truthy_bool ?_)
    exact wpAny_pure (wpAny_pure ⟨_, rfl, hq⟩)
  unfold richCompare
  simp only [oneThing_ref]
  refine wpAny_holding (wpAny_bind (wpAny_cRoomFor hu ?_))
  refine wpAny_bind (I.type.here (wpAny_bind (J.type.here ?_)))
  rw [show (Value.ref C != Value.ref C) = false from by simp]
  simp only [Bool.false_eq_true, if_false]
  refine wpAny_bind (wpAny_pure ?_)
  simp only [Bool.false_eq_true, if_false]
  refine wpAny_bind (wpAny_mono one (fun r s' z => ?_) fun _ _ e => e)
  obtain ⟨v, rfl, hq⟩ := z
  exact wpAny_pure hq
end
end Lw
namespace Lw
open PySem PySem.Spec L2 Evl
/-- the text's own == -/
structure CalE (P : Program) (w : World) (K : PySem.W.Frag) (mg : Str → Option Value) (base : Heap) (C : Addr) (k : Nat) (ps : List Str) (sp : Sp) : Prop where
  ex : ∃ f fd, FnOk P w K mg base CX0 k f fd ps sp ∧ PySem.W.findIn K (.ref C) "__eq__" = some (some (.ref f)) ∧ PySem.W.isFn K (.ref f) = true ∧ Binds K fd ps []
  ne : PySem.W.findIn K (.ref C) (cmpInfo .NotEq).2.1 = some (some (.builtin "object.__ne__"))
  mro : PySem.W.mroIn K C (.type "object") = some true
section
variable {X : Cx} {k : Nat} {C f : Addr} {fd : FuncData} {ps : List Str} {sp : Sp}
def rOwn (C : Addr) (sp : Sp) (g : Bool → Bool) : R2 := fun x y H Q => ∃ a b dx dy fs gs, x = .ref a ∧ y = .ref b ∧ H a = some (.ins C dx fs) ∧ H b = some (.ins C dy gs) ∧ sp [.ref a, .ref b] H (fun v H' => ∃ k, v = .bl k ∧ Q (.bl (g k)) H') E0
theorem op_neOwn (cl : CalE X.prog X.w X.K X.mg X.base C k ps sp) (hr : Room (k + 1) X.A) : OpR X (compareOp .NotEq) (rOwn C sp fun k => !k) := by
  obtain ⟨f, fd, F, hs, hf, hb⟩ := cl.ex
  intro pins s σ H x y u v Q I rx ry h
  obtain ⟨a, b, dx, dy, fs, gs, rfl, rfl, ea, eb, h⟩ := h
  cases (show u = Value.ref a from rx)
  cases (show v = Value.ref b from ry)
  obtain ⟨mA, O, _⟩ := ins_get I.hok ea
  obtain ⟨od, J, _⟩ := O.look
  obtain ⟨mB, O', _⟩ := ins_get I.hok eb
  obtain ⟨od', J', _⟩ := O'.look
  have hl := F.len _ _ _ _ h
  have r2 : Vals [V.ref a, V.ref b] [Value.ref a, Value.ref b] := .cons rfl (.cons rfl .nil)
  refine PySem.W.cmp_ofNotEq (ne_own hr.units0 hr.in1.units0 I.kIn J J' cl.ne cl.mro hs hf ?_)
  refine wpAny_call (codeAny_mono (F.run X.A.in1 X.stack s H ⟨[.ref a, .ref b], []⟩ [.ref a, .ref b] [.ref a, .ref b] _ E0 hr.in1 I.env0.in1 (by
    have := hb s [.ref a, .ref b] I.kIn (by simpa using hl)
    simpa using this) r2 h) fun rr s' hq => ?_)
  cases rr with
  | error e => exact False.elim (pass0 (X := X.nox) pins σ H s e s' (I.wish _) hq)
  | ok fl =>
    cases fl with
    | ret u =>
      obtain ⟨v, H', I3, rv, n, hv, q⟩ := I.after hq
      subst hv
      cases rv
      exact ⟨n, rfl, ⟨.bl (!n), H', I3, rfl, q⟩⟩
    | next => exact False.elim hq
    | brk => exact False.elim hq
    | cont => exact False.elim hq
theorem op_eqOwn (cl : CalE X.prog X.w X.K X.mg X.base C k ps sp) (hr : Room k X.A) : OpR X (compareOp .Eq) (rOwn C sp fun k => k) := by
  obtain ⟨f, fd, F, hs, hf, hb⟩ := cl.ex
  intro pins s σ H x y u v Q I rx ry h
  obtain ⟨a, b, dx, dy, fs, gs, rfl, rfl, ea, eb, h⟩ := h
  cases (show u = Value.ref a from rx)
  cases (show v = Value.ref b from ry)
  obtain ⟨mA, O, _⟩ := ins_get I.hok ea
  obtain ⟨od, J, _⟩ := O.look
  obtain ⟨mB, O', _⟩ := ins_get I.hok eb
  obtain ⟨od', J', _⟩ := O'.look
  obtain ⟨m, hF⟩ := I.fr
  have hl := F.len _ _ _ _ h
  have r2 : Vals [V.ref a, V.ref b] [Value.ref a, Value.ref b] := .cons rfl (.cons rfl .nil)
  show wpAny _ _ (richCompare .Eq (.ref a) (.ref b)) _ _ _
  refine PySem.W.cmp_K (op := .Eq) (tb := .ref C) hr.units0 hF I.ok.mod.kin J J'.type (by simp [PySem.W.notFirst]) hs hf ?_
  refine wpAny_call (codeAny_mono (F.run X.A X.stack s H ⟨[.ref a, .ref b], []⟩ [.ref a, .ref b] [.ref a, .ref b] _ E0 hr I.env0 (by
    have := hb s [.ref a, .ref b] I.kIn (by simpa using hl)
    simpa using this) r2 h) fun rr s' hq => ?_)
  cases rr with
  | error e => exact False.elim (pass0 (X := X.nox) pins σ H s e s' (I.wish _) hq)
  | ok fl =>
    cases fl with
    | ret u =>
      obtain ⟨v, H', I3, rv, n, hv, q⟩ := I.after hq
      subst hv
      cases rv
      exact ⟨.bl n, H', I3, rfl, q⟩
    | next => exact False.elim hq
    | brk => exact False.elim hq
    | cont => exact False.elim hq
end
section
variable {M : Addr → Prop} {B H B1 H1 B' H' : Hp}
/-- knowing less at the start, nothing at the end -/
theorem Gr.base (x : Gr M B1 H B' H') (e : Ex B B1) : Gr M B H B H' := ⟨.refl B, (e.trans x.b).trans x.k, x.h, x.n, fun _ h _ => h⟩
theorem Gr.fresh {d G : Addr} {B2 H2 : Hp} (x : Gr (Md d) B H B1 H1) (y : Gr (Md G) B1 H1 B2 H2) (hG : H G = none) : Gr (Md d) B H B2 H2 :=
  ⟨x.b.trans y.b, y.k, fun a o m h => y.h a o (fun e => by rw [e, hG] at h; cases h) (x.h a o m h), fun a h => y.n a (x.n a h), fun a h1 h2 => y.f a (x.f a h1 h2) (x.n a h2)⟩
theorem ex_put {G : Addr} {o : HO} (k : Ex B H) (e : H G = some o) : Ex (upd B G o) H := fun a u h => by
  by_cases z : a = G
  · subst z
    rw [upd_same] at h
    rw [e, h]
  · rw [upd_ne z] at h
    exact k a u h
end
section
variable {X : Cx} {σ : L2.St} {H : Hp} {Q : VK} {e o a : Expr} {pos p2 p3 ap pos2 : Pos}
/-- a built-in type's method without arguments -/
theorem e_bm0 {T : String} {name : Str} {id : String} {r : V → List V → Hp → VK → Prop} (pa : PySem.PlainAttrs T) (slot : PySem.Slot T name id) (hty : typeOf (.builtin id) = pure (.type "method_descriptor")) (hm : MtR X id r)
    (h : WE X o σ H fun x H1 => tyV X.K T x H1 ∧ r x [] H1 Q) (hbase : attributeBase o name X.env (eval o X.env) = eval o X.env := by rfl) (hline : (ap.endLine == pos.line) = true := by rfl) : WE X (.Call (.Attribute o name ap) [] [] pos) σ H Q :=
  ⟨_, pe_bm0 pa slot hty hm WE.pe hbase hline, h⟩
/-- list(range(n)) -/
theorem e_listRg (hml : X.mg "list" = none) (hmr : X.mg "range" = none) (hc : X.calm = true := by rfl) (hg : Gl X "list" := by rfl) (hg2 : Gl X "range" := by rfl)
    (na : starEach [a] X.env = (false, eval a X.env) :: starEach [] X.env := by rfl) (na2 : starEach [.Call (.Name "range" p3) [a] [] pos2] X.env = (false, eval (.Call (.Name "range" p3) [a] [] pos2) X.env) :: starEach [] X.env := by rfl)
    (h : WE X a σ H fun x H1 => ∃ n, x = .int n ∧ RgOk 0 n ∧ ∀ q, H1 q = none → Q (.ref q) (upd H1 q (.lst (rgV 0 n)))) : WE X (.Call (.Name "list" p2) [.Call (.Name "range" p3) [a] [] pos2] [] pos) σ H Q :=
  ⟨_, pe_listRg hc hg hml (prg_1 hg2 hmr WE.pe na) na2, h⟩
end
/-- the parameters' order -/
def perm2 {α : Type} : List α → List α
  | [x, y] => [y, x]
  | l => l
def perm3 {α : Type} : List α → List α
  | [x, y, z] => [z, y, x]
  | l => l
theorem vals_perm2 {vs : List V} {us : List Value} (r : Vals vs us) : Vals (perm2 vs) (perm2 us) :=
  match r with
  | .nil => .nil
  | .cons a .nil => .cons a .nil
  | .cons a (.cons b .nil) => .cons b (.cons a .nil)
  | .cons a (.cons b (.cons c d)) => .cons a (.cons b (.cons c d))
theorem vals_perm3 {vs : List V} {us : List Value} (r : Vals vs us) : Vals (perm3 vs) (perm3 us) :=
  match r with
  | .nil => .nil
  | .cons a .nil => .cons a .nil
  | .cons a (.cons b .nil) => .cons a (.cons b .nil)
  | .cons a (.cons b (.cons c .nil)) => .cons c (.cons b (.cons a .nil))
  | .cons a (.cons b (.cons c (.cons d e))) => .cons a (.cons b (.cons c (.cons d e)))
end Lw
namespace PySem
open Sem (wp)
theorem tree_kw {prog : Program} {w : World} {A : Around} {E : Value → Shared → Prop} {s : Shared} {id : String} {b : Builtin} {args : List Value} {kw : List (Str × Value)} {Q : Value → Shared → Prop} (hk : builtinKind id = none) (hp : plainId id = true)
    (hb : entryFor table id = some b) (ha : argsOk id ⟨args, kw⟩)
    (hc : wpAny (model prog w) A.in1 (b ⟨args, kw⟩) (fun fin s' => match fin with
      | .done f => (match (Except.ok f : Result) with | .ok (.ret v) => Q v s' | .ok _ => False | .error e => E e s')
      | .again c' => c'.quiet = true ∧ codeAny (model prog w) A c' (fun r s' => match r with | .ok (.ret v) => Q v s' | .ok _ => False | .error e => E e s') s') E s) : wpAny (model prog w) A (call (.builtin id) args kw) Q E s := by
  refine wpAny_call (codeAny_call_builtin hp hb ?_)
  simp only [checkBuiltinCall, hk]
  cases hsig : Manifest.signature? id with
  | none => exact wpAny_pure hc
  | some sig =>
    have ha' : Bind.checkArgs id sig ⟨args, kw⟩ = pure () := by simpa only [argsOk, hsig] using ha
    simp only [ha']
    exact wpAny_pure hc

section
variable {prog : Program} {w : World} {A : Around} {R : Result → Shared → Prop} {I : Addr} {fp wr : List Addr} {n : Nat} {P : Nat → Value → Prop} {St : Nat → Heap → Prop}
theorem best_max (d : Value) (W : Walks prog w A.in1 I fp wr n P St) (bt : Nat → Nat → Bool) (hcmp : CmpOf prog w A.in1 .Gt P bt) (S : Addr) (hSf : S ∉ fp) :
    ∀ (k j : Nat) (s : Shared) (its : Array Value) (c : Nat), n - j = k → j ≤ n → St j s.heap →
    ((j = 0 ∧ its = #[]) ∨ ∃ vb, its = #[vb, vb] ∧ 0 < j ∧ P (argBest bt (j - 1)) vb) →
    s.heap.get? S = some { cls := .type "list", dict := none, data := .seq its c, slots := #[] } →
    (∀ v h' tk, (n = 0 ∧ v = d ∨ 0 < n ∧ P (argBest bt (n - 1)) v) → (∀ b o, b ∉ wr → b ≠ S → s.heap.get? b = some o → h'.get? b = some o) → R (.ok (.ret v)) { s with heap := h', toks := tk }) →
    codeAny (model prog w) A (.builtin "max.loop" ⟨[.ref I, .none, .ref S], [("default", d)]⟩) R s := by
  have hSw : S ∉ wr := fun h => hSf (W.sub _ h)
  have hn : (toString "max" ++ toString ".loop" : String) = "max.loop" := by decide
  intro k
  induction k with
  | zero =>
    intro j s its c hk hj hst hi hS hR
    have hin : j = n := by omega
    subst hin
    refine codeAny_builtin F.entry_max_loop ?_
    rw [Around.under_plainId F.plain_max_loop _]
    show wpAny _ A.in1 (seqItems? (.ref S) >>= _) _ _ s
    refine wpAny_bind (wpAny_seqItems hS rfl ?_)
    show wpAny _ A.in1 (tryCatch (pyNext (.ref I)) _ >>= _) _ _ s
    refine wpAny_bind (wpAny_tryCatch (W.done s _ _ hst fun h' tk hk' => ?_))
    rcases hi with ⟨e0, rfl⟩ | ⟨vb, rfl, h0, hP⟩
    · refine wpAny_bind (wpAny_rule ?_)
      exact wpAny_pure (hR d _ tk (.inl ⟨e0, rfl⟩) fun b o hbw _ e => hk' b o hbw e)
    · have hS' := hk' S _ hSw hS
      show wpAny _ A.in1 (updateSeq S (fun _ => #[]) >>= _) _ _ _
      refine wpAny_bind ?_
      refine wpAny_updateSeq hS' rfl (wpAny_bind (wpAny_letGo (wpAny_pure ?_)))
      exact hR vb _ tk (.inr ⟨h0, hP⟩) fun b o hbw hbS e => (Heap.get?_update_other _ _ (Ne.symm hbS)).trans (hk' b o hbw e)
  | succ k ih =>
    intro j s its c hk hj hst hi hS hR
    have hlt : j < n := by omega
    have go : ∀ {h' : Heap} {tk} {v : Value} (c' : Nat), (∀ b o, b ∉ wr → b ≠ S → s.heap.get? b = some o → h'.get? b = some o) → St (j + 1) h' → P (argBest bt j) v → h'.get? S = some { cls := .type "list", dict := none, data := .seq #[v, v] c', slots := #[] } →
        codeAny (model prog w) A (.builtin "max.loop" ⟨[.ref I, .none, .ref S], [("default", d)]⟩) R { s with heap := h', toks := tk } := fun c' kp st hv hS' =>
      ih (j + 1) _ #[_, _] c' (by omega) hlt st (.inr ⟨_, rfl, Nat.succ_pos _, hv⟩) hS' fun v' h'' tk'' hP' hk'' => hR v' h'' tk'' hP' fun b o hbw hbS e => hk'' b o hbw hbS (kp b o hbw hbS e)
    refine codeAny_builtin F.entry_max_loop ?_
    rw [Around.under_plainId F.plain_max_loop _]
    show wpAny _ A.in1 (seqItems? (.ref S) >>= _) _ _ s
    refine wpAny_bind (wpAny_seqItems hS rfl ?_)
    show wpAny _ A.in1 (tryCatch (pyNext (.ref I)) _ >>= _) _ _ s
    refine wpAny_bind (wpAny_tryCatch (W.item j s _ _ hlt hst fun v h' tk hP hst' hk' => ?_))
    have hS' := hk' S _ hSw hS
    rcases hi with ⟨e0, rfl⟩ | ⟨vb, rfl, h0, hPb⟩
    · subst e0
      show wpAny _ A.in1 (updateSeq S (fun _ => #[v, v]) >>= _) _ _ _
      refine wpAny_bind ?_
      refine wpAny_updateSeq hS' rfl ?_
      rw [hn]
      refine wpAny_pure ⟨plainId_quiet F.plain_max_loop _, go _ (fun b o hbw hbS e => (Heap.get?_update_other _ _ (Ne.symm hbS)).trans (hk' b o hbw e)) (W.frame _ _ _ hst' fun b hbf o e => ?_) hP (Heap.get?_update_self _ hS' rfl)⟩
      exact (Heap.get?_update_other _ _ (fun h : S = b => hSf (by rw [h]; exact hbf))).trans e
    · obtain ⟨i, rfl⟩ : ∃ i, j = i + 1 := ⟨j - 1, by omega⟩
      show wpAny _ A.in1 (tryCatch (holding [v, v] (richCompare .Gt v vb >>= _)) _ >>= _) _ _ _
      refine wpAny_bind (wpAny_tryCatch (wpAny_holding (wpAny_bind (hcmp (i + 1) (argBest bt i) v vb _ _ _ hP hPb ?_))))
      refine wpAny_bind (wpAny_holding (wpAny_truthy_bool ?_))
      refine wpAny_bind (wpAny_letGo (wpAny_pure ?_))
      cases hb : bt (i + 1) (argBest bt i) with
      | true =>
        simp only [if_true]
        refine wpAny_bind ?_
        refine wpAny_updateSeq hS' rfl (wpAny_bind (wpAny_letGo ?_))
        rw [hn]
        refine wpAny_pure ⟨plainId_quiet F.plain_max_loop _, go _ (fun b o hbw hbS e => (Heap.get?_update_other _ _ (Ne.symm hbS)).trans (hk' b o hbw e)) (W.frame _ _ _ hst' fun b hbf o e => ?_) (by simp only [argBest, hb, if_true]; exact hP) (Heap.get?_update_self _ hS' rfl)⟩
        exact (Heap.get?_update_other _ _ (fun h : S = b => hSf (by rw [h]; exact hbf))).trans e
      | false =>
        simp only [Bool.false_eq_true, if_false]
        refine wpAny_bind (wpAny_letGo ?_)
        rw [hn]
        exact wpAny_pure ⟨plainId_quiet F.plain_max_loop _, go c (fun b o hbw _ e => hk' b o hbw e) hst' (by simp only [argBest, hb, Bool.false_eq_true, if_false]; exact hPb) hS'⟩
theorem args_maxD (a d : Value) : argsOk "max" ⟨[a], [("default", d)]⟩ := by unfold argsOk; kernel_rfl
end
section
variable {prog : Program} {w : World} {A : Around} {E : Value → Shared → Prop} {s : Shared} {l : Addr} {xs : Array (Int × Tok)}
theorem max_default {Q : Value → Shared → Prop} (d : Value) (hh : A.handled = none) (hl : s.heap.IsList l (intItems xs))
    (h : ∀ v h' tk, (xs.size = 0 ∧ v = d ∨ 0 < xs.size ∧ (intItems xs)[argBest (fun i j => decide (numAt xs i > numAt xs j)) (xs.size - 1)]? = some v) → (∀ b o, s.heap.get? b = some o → h'.get? b = some o) → Q v { s with heap := h', toks := tk }) :
    wpAny (model prog w) A (call (.builtin "max") [.ref l] [("default", d)]) Q E s := by
  have hn : (toString "max" ++ toString ".loop" : String) = "max.loop" := by decide
  refine tree_kw F.kind_max F.plain_max F.entry_max (args_maxD _ _) ?_
  show wpAny _ A.in1 (Builtin.Builtins.bindParams "max" ["key", "default"] 0 ⟨[], [("default", d)]⟩ >>= _) _ _ s
  refine wpAny_bind (wpAny_of_eq (show Builtin.Builtins.bindParams "max" ["key", "default"] 0 ⟨[], [("default", d)]⟩ = pure [none, some d] from rfl) ?_)
  refine wpAny_bind (wpAny_pure ?_)
  refine wpAny_bind (iter_intList hl fun s₂ e st hfp hlI => ?_)
  subst e
  refine wpAny_bind (wpAny_newObj_type ?_)
  have W := Walks.list (prog := prog) (w := w) (A := A.in1) hh _ l hlI (intItems xs)
  rw [hn]
  refine wpAny_pure ⟨plainId_quiet F.plain_max_loop _, best_max d W _ (CmpOf.ints_gt (numAt xs) (fun _ _ => intItems_at)) _ (fun hm => Nat.lt_irrefl _ (hfp _ hm)) _ 0 _ #[] _ rfl (Nat.zero_le _) (W.frame _ _ _ st fun b _ o e => Heap.get?_push_of_some _ e) (.inl ⟨rfl, rfl⟩) (Heap.get?_push_size _ rfl) fun v h' tk hP hk => ?_⟩
  have hz : (intItems xs).size = xs.size := by simp [intItems]
  rw [hz] at hP
  refine h v h' tk hP fun b o e => ?_
  have hb := Heap.lt_size e
  refine hk b o (fun hm => ?_) (Nat.ne_of_lt (by rw [Heap.size_push]; exact Nat.lt_succ_of_lt hb)) (Heap.get?_push_of_some _ (Heap.get?_push_of_some _ e))
  rcases List.mem_cons.mp hm with e1 | hm
  · exact absurd (e1 ▸ hb) (Nat.lt_irrefl _)
  · cases hm
end

section
variable {prog : Program} {w : World} {A : Around} {R : Result → Shared → Prop} {I : Addr} {fp wr : List Addr} {n : Nat} {P : Nat → Value → Prop} {St : Nat → Heap → Prop}
theorem best_min (d : Value) (W : Walks prog w A.in1 I fp wr n P St) (bt : Nat → Nat → Bool) (hcmp : CmpOf prog w A.in1 .Lt P bt) (S : Addr) (hSf : S ∉ fp) :
    ∀ (k j : Nat) (s : Shared) (its : Array Value) (c : Nat), n - j = k → j ≤ n → St j s.heap →
    ((j = 0 ∧ its = #[]) ∨ ∃ vb, its = #[vb, vb] ∧ 0 < j ∧ P (argBest bt (j - 1)) vb) →
    s.heap.get? S = some { cls := .type "list", dict := none, data := .seq its c, slots := #[] } →
    (∀ v h' tk, (n = 0 ∧ v = d ∨ 0 < n ∧ P (argBest bt (n - 1)) v) → (∀ b o, b ∉ wr → b ≠ S → s.heap.get? b = some o → h'.get? b = some o) → R (.ok (.ret v)) { s with heap := h', toks := tk }) →
    codeAny (model prog w) A (.builtin "min.loop" ⟨[.ref I, .none, .ref S], [("default", d)]⟩) R s := by
  have hSw : S ∉ wr := fun h => hSf (W.sub _ h)
  have hn : (toString "min" ++ toString ".loop" : String) = "min.loop" := by decide
  intro k
  induction k with
  | zero =>
    intro j s its c hk hj hst hi hS hR
    have hin : j = n := by omega
    subst hin
    refine codeAny_builtin F.entry_min_loop ?_
    rw [Around.under_plainId F.plain_min_loop _]
    show wpAny _ A.in1 (seqItems? (.ref S) >>= _) _ _ s
    refine wpAny_bind (wpAny_seqItems hS rfl ?_)
    show wpAny _ A.in1 (tryCatch (pyNext (.ref I)) _ >>= _) _ _ s
    refine wpAny_bind (wpAny_tryCatch (W.done s _ _ hst fun h' tk hk' => ?_))
    rcases hi with ⟨e0, rfl⟩ | ⟨vb, rfl, h0, hP⟩
    · refine wpAny_bind (wpAny_rule ?_)
      exact wpAny_pure (hR d _ tk (.inl ⟨e0, rfl⟩) fun b o hbw _ e => hk' b o hbw e)
    · have hS' := hk' S _ hSw hS
      show wpAny _ A.in1 (updateSeq S (fun _ => #[]) >>= _) _ _ _
      refine wpAny_bind ?_
      refine wpAny_updateSeq hS' rfl (wpAny_bind (wpAny_letGo (wpAny_pure ?_)))
      exact hR vb _ tk (.inr ⟨h0, hP⟩) fun b o hbw hbS e => (Heap.get?_update_other _ _ (Ne.symm hbS)).trans (hk' b o hbw e)
  | succ k ih =>
    intro j s its c hk hj hst hi hS hR
    have hlt : j < n := by omega
    have go : ∀ {h' : Heap} {tk} {v : Value} (c' : Nat), (∀ b o, b ∉ wr → b ≠ S → s.heap.get? b = some o → h'.get? b = some o) → St (j + 1) h' → P (argBest bt j) v → h'.get? S = some { cls := .type "list", dict := none, data := .seq #[v, v] c', slots := #[] } →
        codeAny (model prog w) A (.builtin "min.loop" ⟨[.ref I, .none, .ref S], [("default", d)]⟩) R { s with heap := h', toks := tk } := fun c' kp st hv hS' =>
      ih (j + 1) _ #[_, _] c' (by omega) hlt st (.inr ⟨_, rfl, Nat.succ_pos _, hv⟩) hS' fun v' h'' tk'' hP' hk'' => hR v' h'' tk'' hP' fun b o hbw hbS e => hk'' b o hbw hbS (kp b o hbw hbS e)
    refine codeAny_builtin F.entry_min_loop ?_
    rw [Around.under_plainId F.plain_min_loop _]
    show wpAny _ A.in1 (seqItems? (.ref S) >>= _) _ _ s
    refine wpAny_bind (wpAny_seqItems hS rfl ?_)
    show wpAny _ A.in1 (tryCatch (pyNext (.ref I)) _ >>= _) _ _ s
    refine wpAny_bind (wpAny_tryCatch (W.item j s _ _ hlt hst fun v h' tk hP hst' hk' => ?_))
    have hS' := hk' S _ hSw hS
    rcases hi with ⟨e0, rfl⟩ | ⟨vb, rfl, h0, hPb⟩
    · subst e0
      show wpAny _ A.in1 (updateSeq S (fun _ => #[v, v]) >>= _) _ _ _
      refine wpAny_bind ?_
      refine wpAny_updateSeq hS' rfl ?_
      rw [hn]
      refine wpAny_pure ⟨plainId_quiet F.plain_min_loop _, go _ (fun b o hbw hbS e => (Heap.get?_update_other _ _ (Ne.symm hbS)).trans (hk' b o hbw e)) (W.frame _ _ _ hst' fun b hbf o e => ?_) hP (Heap.get?_update_self _ hS' rfl)⟩
      exact (Heap.get?_update_other _ _ (fun h : S = b => hSf (by rw [h]; exact hbf))).trans e
    · obtain ⟨i, rfl⟩ : ∃ i, j = i + 1 := ⟨j - 1, by omega⟩
      show wpAny _ A.in1 (tryCatch (holding [v, v] (richCompare .Lt v vb >>= _)) _ >>= _) _ _ _
      refine wpAny_bind (wpAny_tryCatch (wpAny_holding (wpAny_bind (hcmp (i + 1) (argBest bt i) v vb _ _ _ hP hPb ?_))))
      refine wpAny_bind (wpAny_holding (wpAny_truthy_bool ?_))
      refine wpAny_bind (wpAny_letGo (wpAny_pure ?_))
      cases hb : bt (i + 1) (argBest bt i) with
      | true =>
        simp only [if_true]
        refine wpAny_bind ?_
        refine wpAny_updateSeq hS' rfl (wpAny_bind (wpAny_letGo ?_))
        rw [hn]
        refine wpAny_pure ⟨plainId_quiet F.plain_min_loop _, go _ (fun b o hbw hbS e => (Heap.get?_update_other _ _ (Ne.symm hbS)).trans (hk' b o hbw e)) (W.frame _ _ _ hst' fun b hbf o e => ?_) (by simp only [argBest, hb, if_true]; exact hP) (Heap.get?_update_self _ hS' rfl)⟩
        exact (Heap.get?_update_other _ _ (fun h : S = b => hSf (by rw [h]; exact hbf))).trans e
      | false =>
        simp only [Bool.false_eq_true, if_false]
        refine wpAny_bind (wpAny_letGo ?_)
        rw [hn]
        exact wpAny_pure ⟨plainId_quiet F.plain_min_loop _, go c (fun b o hbw _ e => hk' b o hbw e) hst' (by simp only [argBest, hb, Bool.false_eq_true, if_false]; exact hPb) hS'⟩
theorem args_minD (a d : Value) : argsOk "min" ⟨[a], [("default", d)]⟩ := by unfold argsOk; kernel_rfl
end
section
variable {prog : Program} {w : World} {A : Around} {E : Value → Shared → Prop} {s : Shared} {l : Addr} {xs : Array (Int × Tok)}
theorem min_default {Q : Value → Shared → Prop} (d : Value) (hh : A.handled = none) (hl : s.heap.IsList l (intItems xs))
    (h : ∀ v h' tk, (xs.size = 0 ∧ v = d ∨ 0 < xs.size ∧ (intItems xs)[argBest (fun i j => decide (numAt xs i < numAt xs j)) (xs.size - 1)]? = some v) → (∀ b o, s.heap.get? b = some o → h'.get? b = some o) → Q v { s with heap := h', toks := tk }) :
    wpAny (model prog w) A (call (.builtin "min") [.ref l] [("default", d)]) Q E s := by
  have hn : (toString "min" ++ toString ".loop" : String) = "min.loop" := by decide
  refine tree_kw F.kind_min F.plain_min F.entry_min (args_minD _ _) ?_
  show wpAny _ A.in1 (Builtin.Builtins.bindParams "min" ["key", "default"] 0 ⟨[], [("default", d)]⟩ >>= _) _ _ s
  refine wpAny_bind (wpAny_of_eq (show Builtin.Builtins.bindParams "min" ["key", "default"] 0 ⟨[], [("default", d)]⟩ = pure [none, some d] from rfl) ?_)
  refine wpAny_bind (wpAny_pure ?_)
  refine wpAny_bind (iter_intList hl fun s₂ e st hfp hlI => ?_)
  subst e
  refine wpAny_bind (wpAny_newObj_type ?_)
  have W := Walks.list (prog := prog) (w := w) (A := A.in1) hh _ l hlI (intItems xs)
  rw [hn]
  refine wpAny_pure ⟨plainId_quiet F.plain_min_loop _, best_min d W _ (CmpOf.ints_lt (numAt xs) (fun _ _ => intItems_at)) _ (fun hm => Nat.lt_irrefl _ (hfp _ hm)) _ 0 _ #[] _ rfl (Nat.zero_le _) (W.frame _ _ _ st fun b _ o e => Heap.get?_push_of_some _ e) (.inl ⟨rfl, rfl⟩) (Heap.get?_push_size _ rfl) fun v h' tk hP hk => ?_⟩
  have hz : (intItems xs).size = xs.size := by simp [intItems]
  rw [hz] at hP
  refine h v h' tk hP fun b o e => ?_
  have hb := Heap.lt_size e
  refine hk b o (fun hm => ?_) (Nat.ne_of_lt (by rw [Heap.size_push]; exact Nat.lt_succ_of_lt hb)) (Heap.get?_push_of_some _ (Heap.get?_push_of_some _ e))
  rcases List.mem_cons.mp hm with e1 | hm
  · exact absurd (e1 ▸ hb) (Nat.lt_irrefl _)
  · cases hm
end
end PySem
namespace Lw
open PySem PySem.Spec L2 Evl PyProof.Rows
/-- max(xs, default=d), min(xs, default=d) of a list of ints -/
def rBest (K : PySem.W.Frag) (R : Int → Int → Prop) : List V → List V → Hp → VK → Prop := fun vs zs H Q => ∃ (a : Addr) (ns : List Int) (d : V), vs = [V.ref a] ∧ zs = [d] ∧ SqL K H a (ns.map V.int) ∧ (ns = [] → Q d H) ∧ ∀ m, m ∈ ns → (∀ y, y ∈ ns → R y m) → Q (.int m) H
section
variable {X : Cx}
theorem cr_maxD (hc : X.calm = true) : CallRK X (.builtin "max") ["default"] (rBest X.K fun y m => y ≤ m) := by
  intro pins s σ H vs zs us ws Q I r rz h
  obtain ⟨a, ns, d, rfl, rfl, hs, q0, q⟩ := h
  obtain ⟨its, rv, hl, _⟩ := I.list hs
  rw [Vals.ref1 r]
  obtain ⟨d', rfl, rd⟩ := vals1 rz
  have hi := rv.ints
  obtain ⟨xs, e⟩ := hi.allInts.items
  have hn : numsOf (intItems xs).toList = ns := by rw [← e]; exact hi.numsOf
  rw [nums_intItems] at hn
  subst hn
  have hl' : s.heap.IsList a (intItems xs) := e ▸ hl.isList
  refine max_default d' (I.ok.hd hc) hl' fun v h' tk hP hk => ?_
  rcases hP with ⟨h0, rfl⟩ | ⟨h0, hv⟩
  · have e0 : xs = #[] := Array.eq_empty_of_size_eq_zero h0
    subst e0
    exact ⟨d, H, I.kept hk, rd, q0 rfl⟩
  · obtain ⟨t, rfl⟩ := intItems_at hv
    obtain ⟨h1, h2⟩ := argBest_gt (numAt xs) (xs.size - 1)
    refine ⟨.int _, H, I.kept hk, ⟨_, rfl⟩, q _ ?_ fun b hb => ?_⟩
    · rw [numAt_eq]; exact PySem.getD_mem (by rw [List.length_map, Array.length_toList]; omega)
    · obtain ⟨j, hj, rfl⟩ := mem_getD hb
      rw [List.length_map, Array.length_toList] at hj
      rw [← numAt_eq]; exact h2 j (by omega)
theorem cr_minD (hc : X.calm = true) : CallRK X (.builtin "min") ["default"] (rBest X.K fun y m => m ≤ y) := by
  intro pins s σ H vs zs us ws Q I r rz h
  obtain ⟨a, ns, d, rfl, rfl, hs, q0, q⟩ := h
  obtain ⟨its, rv, hl, _⟩ := I.list hs
  rw [Vals.ref1 r]
  obtain ⟨d', rfl, rd⟩ := vals1 rz
  have hi := rv.ints
  obtain ⟨xs, e⟩ := hi.allInts.items
  have hn : numsOf (intItems xs).toList = ns := by rw [← e]; exact hi.numsOf
  rw [nums_intItems] at hn
  subst hn
  have hl' : s.heap.IsList a (intItems xs) := e ▸ hl.isList
  refine min_default d' (I.ok.hd hc) hl' fun v h' tk hP hk => ?_
  rcases hP with ⟨h0, rfl⟩ | ⟨h0, hv⟩
  · have e0 : xs = #[] := Array.eq_empty_of_size_eq_zero h0
    subst e0
    exact ⟨d, H, I.kept hk, rd, q0 rfl⟩
  · obtain ⟨t, rfl⟩ := intItems_at hv
    obtain ⟨h1, h2⟩ := argBest_lt (numAt xs) (xs.size - 1)
    refine ⟨.int _, H, I.kept hk, ⟨_, rfl⟩, q _ ?_ fun b hb => ?_⟩
    · rw [numAt_eq]; exact PySem.getD_mem (by rw [List.length_map, Array.length_toList]; omega)
    · obtain ⟨j, hj, rfl⟩ := mem_getD hb
      rw [List.length_map, Array.length_toList] at hj
      rw [← numAt_eq]; exact h2 j (by omega)
end
section
variable {X : Cx} {σ : L2.St} {H : Hp} {Q : VK} {x : Str} {p pos p2 : Pos} {e o i a : Expr} {es : List Expr} {kws : List Keyword}
theorem e_bltK {id : String} {ks : List Str} {r : List V → List V → Hp → VK → Prop} (hc : CallRK X (.builtin id) ks r) (hm : X.mg x = none) (hv : bootBuiltins x = some (.builtin id)) (h : WA X (e :: es) σ H fun vs H1 => WK X kws σ H1 fun zs H2 => r vs zs H2 Q)
    (hg : Gl X x := by rfl) (hn : x ≠ "__name__" := by decide) (hdb : (x == ("__debug__" : Str)) = false := by decide)
    (he : backTo pos (starEach (e :: es) X.env) = (false, eval e X.env) :: backTo pos (starEach es X.env) := by rfl) (hpl : (backTo pos (starEach (e :: es) X.env)).any (·.1) = false := by rfl)
    (hall : (backToKw pos (keywordEach kws X.env)).all (·.1.isSome) = true := by rfl) (hnone : (backToKw pos (keywordEach kws X.env)).any (·.1.isNone) = false := by rfl) (hks : (backToKw pos (keywordEach kws X.env)).filterMap (·.1) = ks := by rfl) :
    WE X (.Call (.Name x p) (e :: es) kws pos) σ H Q := ⟨_, pe_callBK hc hg hm hv WA.pa WK.pk hn hdb he hpl hall hnone hks, h⟩
/-! dicts -/
theorem e_dget (hu : X.A.units + 1 < cLine) (hs : NoSl i := by intro _ _; rfl) (h : WE X o σ H fun x H1 => WE X i σ H1 fun y H2 => ∃ a v, x = .ref a ∧ DGet H2 a y (some v) ∧ Q v H2) : WE X (.Subscript o i pos) σ H Q := ⟨_, pe_dget hu WE.pe WE.pe hs, h⟩
theorem t_dnotin {QT : Bool → Hp → Prop} (hu : X.A.units + 1 < cLine) (h1 : behindInMarks .NotIn o = false := by first | exact nobehind _ (by decide) (by decide) | rfl)
    (h : WE X i σ H fun y H1 => WE X o σ H1 fun x H2 => ∃ a r, x = .ref a ∧ DGet H2 a y r ∧ QT (!r.isSome) H2) : WT X (.Compare i [.NotIn] [o] pos) σ H QT := by
  refine ⟨_, pt_cmp (pc_dnotin hu WE.pe WE.pe) h1, ?_⟩
  show WE X i σ H fun y H1 => WE X o σ H1 fun x H2 => ∃ a r, x = .ref a ∧ DGet H2 a y r ∧ ∃ k, V.bl (!r.isSome) = .bl k ∧ QT k H2
  obtain ⟨t, ht, q⟩ := h
  refine ⟨t, ht, ?_⟩
  have e : (fun (y : V) (H1 : Hp) => WE X o σ H1 fun x H2 => ∃ a r, x = .ref a ∧ DGet H2 a y r ∧ ∃ k, V.bl (!r.isSome) = .bl k ∧ QT k H2) = (fun y H1 => WE X o σ H1 fun x H2 => ∃ a r, x = .ref a ∧ DGet H2 a y r ∧ QT (!r.isSome) H2) := by
    funext y H1
    congr 1
    funext x H2
    apply propext
    constructor
    · rintro ⟨a, r, e, g, k, ek, q⟩; cases ek; exact ⟨a, r, e, g, q⟩
    · rintro ⟨a, r, e, g, q⟩; exact ⟨a, r, e, g, _, rfl, q⟩
  rw [e]
  exact q
theorem s_dput {D : Ends} {value : Expr} {pos' : Pos} (hu : X.A.units + 1 < cLine) (hs : swapsWith value (some (.Subscript o i pos')) pos.line X.env = pure false := by rfl)
    (h : WE X value σ H fun v H1 => WE X o σ H1 fun x H2 => WE X i σ H2 fun y H3 => ∃ a H4, x = .ref a ∧ DPut H3 a y v H4 ∧ D.nx σ H4) : WS X (.Assign [.Subscript o i pos'] value pos) D σ H := ⟨_, ps_dput hu WE.pe WE.pe WE.pe hs, h⟩
theorem e_dnew (h : ∀ p, H p = none → Q (.ref p) (upd H p (.dK []))) : WE X (.Dict [] [] pos) σ H Q := ⟨_, pe_dnewK, h⟩
def tDcR (J : It) (g : TG) (tt : TT) (tk tv : TE) (vs : List Nat) (σ : L2.St) (H1 : Hp) (D : Addr) (Qd : Hp → Prop) : Prop := ∃ W : Nat → Nat → Hp → Prop, (∃ m, W 0 m (upd H1 D (.dK []))) ∧ ∀ i m H, W i m H →
  (J.stop i H ∧ Qd H) ∨ (J.go i H ∧ ∃ Nx : Hp → Prop, (∀ H', Nx H' → ∃ m', m' < m ∧ W (i + 1) m' H') ∧ ∀ x H', J.yld i H x H' → g x (wipe σ vs) H' fun σ2 H2 => wipe σ2 vs = wipe σ vs ∧ tt σ2 H2 fun b H3 =>
    if b = true then tk σ2 H3 fun y H4 => tv σ2 H4 fun z H5 => ∃ kvs k, y = kV k ∧ H5 D = some (.dK kvs) ∧ kvs.length < sizeLine ∧ Nx (upd H5 D (.dK (putK kvs k z))) else Nx H3)
theorem e_dc {tg iter kx vx : Expr} {ifs : List Expr} {scope : Scope} (own : List (Str × Nat)) (hN : X.N.Nodup) (ok : BlkOk X.N X.env.scope scope own := by exact blkOk_by (by decide +kernel)) (hc : X.calm = true := by rfl) (hs : ∀ x, foldedSetIterable iter X.env x = pure x := by intro _; rfl)
    (h : WI X tg iter σ H fun J H1 => ∀ D, H1 D = none → tDcR J (GBlk X scope tg) (TBlk X scope ifs) (EBlk X scope kx) (EBlk X scope vx) (own.map (·.2)) σ H1 D (Q (.ref D))) : WE X (.DictComp kx vx [⟨tg, iter, ifs, 0⟩] scope pos) σ H Q :=
  ⟨_, pe_dc hc hN WI.pi ok blk_g blk_t blk_e blk_e hs, h⟩
theorem e_slT {lo hi : Option Expr} (h : WE X a σ H fun x H1 => WO X lo σ H1 fun i H2 => WO X hi σ H2 fun j H3 => rSlT X.K x i j H3 Q) : WE X (.Subscript a (.Slice lo hi none p2) pos) σ H Q := ⟨_, pe_slice sl_tup WE.pe WO.po WO.po, h⟩
/-- over a walk, the new dict at D -/
theorem dc_it {J : It} {n : Nat} {G : Hp → Prop} {Y : Nat → Hp → V → Hp → Prop} {H1 : Hp} {g : TG} {tt : TT} {tk tv : TE} {vs : List Nat} {D : Addr} {Qd : Hp → Prop} (w : Walk J n G Y) (Pv : Nat → Hp → Prop) (h0 : Pv 0 (upd H1 D (.dK []))) (hG : ∀ i H, i ≤ n → Pv i H → G H)
    (hs : ∀ i x H H', i < n → Pv i H → Y i H x H' → g x (wipe σ vs) H' fun σ2 H2 => wipe σ2 vs = wipe σ vs ∧ tt σ2 H2 fun b H3 =>
      if b = true then tk σ2 H3 fun y H4 => tv σ2 H4 fun z H5 => ∃ kvs k, y = kV k ∧ H5 D = some (.dK kvs) ∧ kvs.length < sizeLine ∧ Pv (i + 1) (upd H5 D (.dK (putK kvs k z))) else Pv (i + 1) H3) (hd : ∀ H, Pv n H → Qd H) : tDcR J g tt tk tv vs σ H1 D Qd := by
  refine ⟨fun i m H => m = n - i ∧ i ≤ n ∧ Pv i H, ⟨n, by simp, Nat.zero_le _, h0⟩, ?_⟩
  rintro i m H ⟨rfl, hi, p⟩
  have q := hG i H hi p
  by_cases hlt : i < n
  · exact .inr ⟨w.goes i H hlt q, Pv (i + 1), fun H' p' => ⟨n - (i + 1), by omega, rfl, hlt, p'⟩, fun x H' y => hs i x H H' hlt p (w.yields i H x H' hlt q y)⟩
  · have e : i = n := by omega
    subst e
    exact .inl ⟨w.stops H q, hd H p⟩
end
end Lw
namespace Lw
open PySem PySem.Spec L2 Evl
/-! ### small things -/
theorem Das.put {α : Type} [DecidableEq α] [Dat α] {K : PySem.W.Frag} {B : Hp} {v : V} {x : α} : ∀ {vs : List V} {xs : List α} (i : Nat), Das K B vs xs → Dt K B v x → Das K B (vs.set i v) (xs.set i x)
  | [], [], _, h, _ => h
  | [], _ :: _, _, h, _ => by cases h
  | _ :: _, [], _, h, _ => by cases h
  | _ :: vs, _ :: xs, 0, h, d => by
    cases h with
    | cons a b => exact .cons d b
  | _ :: vs, _ :: xs, i + 1, h, d => by
    cases h with
    | cons a b => exact .cons a (Das.put i (show Das K B vs xs from b) d)
theorem Das.bools {K : PySem.W.Frag} {B : Hp} : ∀ {vs : List V} {bs : List Bool}, Das K B vs bs → vs = bs.map V.bl
  | [], [], _ => rfl
  | [], _ :: _, h => by cases h
  | _ :: _, [], h => by cases h
  | v :: vs, b :: bs, h => by
    cases h with
    | cons h hs => rw [List.map_cons, dt_bl (show Dt K B v b from h), Das.bools (show Das K B vs bs from hs)]
theorem Das.upto {α : Type} [DecidableEq α] [Dat α] {K : PySem.W.Frag} {B : Hp} : ∀ {vs : List V} {xs : List α} (n : Nat), Das K B vs xs → Das K B (vs.take n) (xs.take n)
  | _, _, 0, _ => by rw [List.take_zero, List.take_zero]; exact Das.nil
  | [], [], _ + 1, h => h
  | [], _ :: _, _, h => by cases h
  | _ :: _, [], _, h => by cases h
  | _ :: vs, _ :: xs, n + 1, h => by
    cases h with
    | cons a b => exact .cons a (Das.upto n (show Das K B vs xs from b))
theorem ixN_pos {n : Nat} {i : Int} (h0 : 0 ≤ i) (h1 : i < n) : ixN n i = some i.toNat := by
  unfold ixN
  rw [if_pos h0, if_pos h1]
theorem take_next {α : Type} {xs : List α} {i : Nat} {a : α} (h : xs[i]? = some a) : xs.take (i + 1) = xs.take i ++ [a] := by
  rw [List.take_add_one, h]
  rfl
theorem fmap_congr {α β : Type} {f g : α → Option β} : ∀ {l : List α}, (∀ a ∈ l, f a = g a) → l.filterMap f = l.filterMap g
  | [], _ => rfl
  | a :: l, h => by
    rw [List.filterMap_cons, List.filterMap_cons, h a List.mem_cons_self, fmap_congr fun b hb => h b (List.mem_cons_of_mem _ hb)]
theorem flat_ints : ∀ ns : List Int, (ns.map V.int).all flatV = true
  | [] => rfl
  | n :: ns => by rw [List.map_cons, List.all_cons, flat_ints ns]; rfl
theorem in_ints (y : Int) : ∀ ns : List Int, inV (.int y) (ns.map V.int) = decide (y ∈ ns) := by
  intro ns
  have hq : ∀ n : Int, eqV (.int n) (.int y) = decide (n = y) := fun n => by
    show (n == y) = _
    exact beq_dec n y
  rw [Bool.eq_iff_iff, decide_eq_true_eq]
  unfold inV
  rw [List.any_eq_true]
  constructor
  · rintro ⟨v, hv, e⟩
    obtain ⟨n, hn, rfl⟩ := List.mem_map.mp hv
    rw [hq, decide_eq_true_eq] at e
    rw [← e]
    exact hn
  · intro h
    exact ⟨.int y, List.mem_map.mpr ⟨y, h, rfl⟩, by rw [hq]; exact decide_eq_true rfl⟩
theorem walk_from {a n : Nat} : Walk (Itr (a : Nat) n) n (fun _ => True) (fun i H x H' => H' = H ∧ x = .int ((a + i : Nat) : Int)) :=
  (walk_range (lo := (a : Nat))).mono (fun _ h => h) fun i H x H' _ _ y => ⟨y.1, by rw [y.2]; show V.int ((a : Nat) + (i : Nat)) = _; rw [Int.natCast_add]⟩
/-! ### sorted, uniquely -/
def SrtI (ys ks : List Int) : Prop := ys.Perm ks ∧ ys.Pairwise (· ≤ ·)
theorem srtI_uniq {xs ys ks : List Int} (h1 : SrtI xs ks) (h2 : SrtI ys ks) : xs = ys := by
  have hp : xs.Perm ys := h1.1.trans h2.1.symm
  exact go xs ys hp h1.2 h2.2
where
  go : ∀ xs ys : List Int, xs.Perm ys → xs.Pairwise (· ≤ ·) → ys.Pairwise (· ≤ ·) → xs = ys
    | [], ys, h, _, _ => (List.nil_perm.mp h).symm
    | x :: xs, [], h, _, _ => absurd h.symm (by simp)
    | x :: xs, y :: ys, h, h1, h2 => by
      obtain ⟨a1, a2⟩ := List.pairwise_cons.mp h1
      obtain ⟨b1, b2⟩ := List.pairwise_cons.mp h2
      have e : x = y := by
        have m1 : x ∈ y :: ys := h.mem_iff.mp List.mem_cons_self
        have m2 : y ∈ x :: xs := h.mem_iff.mpr List.mem_cons_self
        rcases List.mem_cons.mp m1 with e | e
        · exact e
        · rcases List.mem_cons.mp m2 with e' | e'
          · exact e'.symm
          · have := a1 _ e'; have := b1 _ e; omega
      subst e
      rw [go xs ys (List.Perm.cons_inv h) a2 b2]
/-! ### the least and the greatest -/
def lmin (d : Int) : List Int → Int
  | [] => d
  | c :: cs => cs.foldl min c
def lmax (d : Int) : List Int → Int
  | [] => d
  | c :: cs => cs.foldl max c
theorem fold_min : ∀ (cs : List Int) (c : Int), (cs.foldl min c = c ∨ cs.foldl min c ∈ cs) ∧ cs.foldl min c ≤ c ∧ ∀ y ∈ cs, cs.foldl min c ≤ y
  | [], c => ⟨.inl rfl, Int.le_refl _, fun y h => nomatch h⟩
  | d :: cs, c => by
    obtain ⟨h1, h2, h3⟩ := fold_min cs (min c d)
    rw [List.foldl_cons]
    refine ⟨?_, by omega, fun y hy => ?_⟩
    · rcases h1 with h | h
      · rw [h]
        rcases Int.le_total c d with e | e
        · left; omega
        · right; rw [Int.min_eq_right e]; exact List.mem_cons_self
      · exact .inr (List.mem_cons_of_mem _ h)
    · rcases List.mem_cons.mp hy with rfl | hy
      · omega
      · exact h3 y hy
theorem fold_max : ∀ (cs : List Int) (c : Int), (cs.foldl max c = c ∨ cs.foldl max c ∈ cs) ∧ c ≤ cs.foldl max c ∧ ∀ y ∈ cs, y ≤ cs.foldl max c
  | [], c => ⟨.inl rfl, Int.le_refl _, fun y h => nomatch h⟩
  | d :: cs, c => by
    obtain ⟨h1, h2, h3⟩ := fold_max cs (max c d)
    rw [List.foldl_cons]
    refine ⟨?_, by omega, fun y hy => ?_⟩
    · rcases h1 with h | h
      · rw [h]
        rcases Int.le_total c d with e | e
        · right; rw [Int.max_eq_right e]; exact List.mem_cons_self
        · left; omega
      · exact .inr (List.mem_cons_of_mem _ h)
    · rcases List.mem_cons.mp hy with rfl | hy
      · omega
      · exact h3 y hy
theorem lmin_is {d m : Int} {cs : List Int} (h1 : m ∈ cs) (h2 : ∀ y ∈ cs, m ≤ y) : m = lmin d cs := by
  cases cs with
  | nil => cases h1
  | cons c cs =>
    obtain ⟨k1, k2, k3⟩ := fold_min cs c
    show m = cs.foldl min c
    have a : m ≤ cs.foldl min c := by
      rcases k1 with h | h
      · rw [h]; exact h2 c List.mem_cons_self
      · exact h2 _ (List.mem_cons_of_mem _ h)
    have b : cs.foldl min c ≤ m := by
      rcases List.mem_cons.mp h1 with rfl | h
      · exact k2
      · exact k3 m h
    omega
theorem lmax_is {d m : Int} {cs : List Int} (h1 : m ∈ cs) (h2 : ∀ y ∈ cs, y ≤ m) : m = lmax d cs := by
  cases cs with
  | nil => cases h1
  | cons c cs =>
    obtain ⟨k1, k2, k3⟩ := fold_max cs c
    show m = cs.foldl max c
    have a : cs.foldl max c ≤ m := by
      rcases k1 with h | h
      · rw [h]; exact h2 c List.mem_cons_self
      · exact h2 _ (List.mem_cons_of_mem _ h)
    have b : m ≤ cs.foldl max c := by
      rcases List.mem_cons.mp h1 with rfl | h
      · exact k2
      · exact k3 m h
    omega
section
variable {X : Cx} {σ : L2.St} {H : Hp} {Q : VK} {a e : Expr} {p p2 p3 q pos : Pos}
/-- len(set(xs)) of different ints -/
theorem e_lenSet (hm : X.mg "len" = none) (hm2 : X.mg "set" = none) (hg : Gl X "len" := by rfl) (hg2 : Gl X "set" := by rfl) (hc : X.calm = true := by rfl) (na : starEach [a] X.env = (false, eval a X.env) :: starEach [] X.env := by rfl)
    (h : WE X a σ H fun x H1 => ∃ (l : Addr) (ns : List Int), x = .ref l ∧ SqL X.K H1 l (ns.map V.int) ∧ ns.Nodup ∧ ns.length ≤ 4000 ∧ Q (.int (ns.length : Nat)) H1) : WE X (.Call (.Name "len" p) [.Call (.Name "set" p2) [a] [] q] [] pos) σ H Q := ⟨_, RZ.pe_lenSetI hg hm hg2 hm2 WE.pe hc na, h⟩
end
end Lw
/-! Defs that may raise, own errors, try; great powers; zip of tuples; op= of names. -/
namespace Lw
open PySem PySem.Spec L2 Evl

/-! ### great powers -/
def CPowW (i j : Int) : Prop := 0 ≤ j ∧ (Builtin.Int.intBits i : Int) * j ≤ 2 ^ 27
section
variable {X : Cx} {σ : L2.St} {H : Hp} {Q : VK} {a b e : Expr} {pos p2 : Pos}
theorem op_powW : OpR X (binaryOp .Pow) (rI CPowW fun i j => .int (i ^ j.toNat)) := opI fun _ _ _ _ _ _ _ hc q => PyProof.Rows.pow_int hc.1 hc.2 q
theorem e_powW (h : WE X a σ H fun x H1 => WE X b σ H1 fun y H2 => ∃ i j, x = .int i ∧ y = .int j ∧ CPowW i j ∧ Q (.int (i ^ j.toNat)) H2) : WE X (.BinOp a .Pow b pos) σ H Q := e_bin op_powW h
end
theorem bits_le {i : Int} {n : Nat} (h : i.natAbs < 2 ^ n) : Builtin.Int.intBits i ≤ n := by
  unfold Builtin.Int.intBits
  split
  · omega
  · rename_i h0
    have h0' : i.natAbs ≠ 0 := by
      intro z
      apply h0
      rw [beq_iff_eq]
      omega
    have := (Nat.log2_lt h0').mpr h
    omega
theorem powW_of {i j : Int} {n : Nat} (h : i.natAbs < 2 ^ n) (h0 : 0 ≤ j) (h1 : (n : Int) * j ≤ 2 ^ 27) : CPowW i j := by
  refine ⟨h0, Int.le_trans (Int.mul_le_mul_of_nonneg_right ?_ h0) h1⟩
  exact_mod_cast bits_le h

/-! ### calls of defs that may raise -/
structure CalX (P : Program) (w : World) (K : PySem.W.Frag) (mg : Str → Option Value) (base : Heap) (x : Str) (k : Nat) (ps : List Str) (sp : Sp) : Prop where
  ex : ∃ f fd, FnOk P w K mg base (L2.CX P w) k f fd ps sp ∧ mg x = some (.ref f) ∧ PySem.W.keepIn K (.ref f) = true ∧ Binds K fd ps []
structure CalKX (P : Program) (w : World) (K : PySem.W.Frag) (mg : Str → Option Value) (base : Heap) (x : Str) (k : Nat) (ps ks : List Str) (gV : List V → List V) (sp : Sp) : Prop where
  ex : ∃ f fd g, FnOk P w K mg base (L2.CX P w) k f fd ps sp ∧ mg x = some (.ref f) ∧ PySem.W.keepIn K (.ref f) = true ∧ KBn K fd ps 0 ks g (fun _ zs => gV zs)
section
variable {X : Cx} {σ : L2.St} {H : Hp} {Q : VK} {a b c e o : Expr} {pos p2 apos : Pos} {x m : Str} {v : V} {es : List Expr} {k : Nat} {ps ks : List Str} {sp : Sp} {gV : List V → List V} {W : WX}
theorem e_callX (cl : CalX X.prog X.w X.K X.mg X.base x k ps sp) (tk : Takes X W) (hr : Room k X.A) (hg : Gl X x := by rfl) (hdb : (x == ("__debug__" : Str)) = false := by decide) (he : starEach (e :: es) X.env = (false, eval e X.env) :: starEach es X.env := by rfl) (hpl : (backTo pos (starEach es X.env)).any (·.1) = false := by rfl)
    (h : WA X (e :: es) σ H fun vs H1 => sp vs H1 Q (fun cls d H' => W cls d σ H')) : WE X (.Call (.Name x p2) (e :: es) [] pos) σ H Q := by
  obtain ⟨f, fd, F, hm, hk, hb⟩ := cl.ex
  exact ⟨_, pe_callS (E := L2.WE W) F hr hg hm hk hb (fun σ => passAt tk σ) WA.pa hdb he hpl, h⟩
theorem pe_callN1 {CX : CXT} {f : Addr} {fd : FuncData} {E : XK} {kws : List Keyword} {tk : TA} {g : List Value → List Value → List Value} {gW : List V → List V → List V} (F : FnOk X.prog X.w X.K X.mg X.base CX k f fd ps sp) (hr : Room k X.A) (hg : Gl X x) (hm : X.mg x = some (.ref f)) (hk : PySem.W.keepIn X.K (.ref f) = true) (hb : KBn X.K fd ps 0 ks g gW) (hx : Passes CX X E)
    (hkw : PK X kws tk) (hall : (backToKw pos (keywordEach kws X.env)).all (·.1.isSome) = true := by rfl) (hks : (backToKw pos (keywordEach kws X.env)).filterMap (·.1) = ks := by rfl)
    (hdb : (x == ("__debug__" : Str)) = false := by decide)
    (hpl : ((backTo pos (starEach [] X.env)).any (·.1) || (backToKw pos (keywordEach kws X.env)).any (·.1.isNone)) = false := by rfl) :
    PE X (.Call (.Name x p2) [] kws pos) (tCallN 0 ks.length sp gW E tNil tk) := pe_callN0 F hr hg hm hk hb hx hkw hall hks hdb hpl
/-- by keywords alone, where it raises nothing -/
theorem e_callKX {kws : List Keyword} (cl : CalKX X.prog X.w X.K X.mg X.base x k ps ks gV sp) (hr : Room k X.A) (hg : Gl X x := by rfl) (hdb : (x == ("__debug__" : Str)) = false := by decide)
    (hall : (backToKw pos (keywordEach kws X.env)).all (·.1.isSome) = true := by rfl) (hks : (backToKw pos (keywordEach kws X.env)).filterMap (·.1) = ks := by rfl)
    (hpl : ((backTo pos (starEach [] X.env)).any (·.1) || (backToKw pos (keywordEach kws X.env)).any (·.1.isNone)) = false := by rfl)
    (h : WK X kws σ H fun zs H1 => ([] : List V).length = 0 ∧ zs.length = ks.length ∧ sp (gV zs) H1 Q E0) : WE X (.Call (.Name x p2) [] kws pos) σ H Q := by
  obtain ⟨f, fd, g, F, hm, hk, hb⟩ := cl.ex
  exact ⟨_, pe_callN0 F hr hg hm hk hb passL WK.pk hall hks hdb hpl, h⟩
end

/-! ### own error classes over ValueError with one attribute -/
/-- __init__: self.value = value -/
def sp_wi (K : PySem.W.Frag) : Sp := fun vs H Q _ => ∃ (a C : Addr) (v : V), vs = [.ref a, v] ∧ OexC K C ∧ PySem.W.findIn K (.ref C) "value" = some none ∧ H a = some (exo a C none) ∧
  ∀ dx, H dx = none → dx ≠ a → Q .non (upd (upd H dx (exd dx [(("value" : Str), v)])) a (exo a C (some dx)))
structure ExC (P : Program) (w : World) (K : PySem.W.Frag) (mg : Str → Option Value) (base : Heap) (x : Str) (C : Addr) : Prop where
  gC : mg x = some (.ref C)
  ox : OexC K C
  xf : XfC K C
  nv : PySem.W.findIn K (.ref C) "value" = some none
  te : PySem.W.exmOne K (.ref C) (.ref C) = some true
  ini : ∃ fI fd, FnOk P w K mg base CX0 1 fI fd ["self", "value"] (sp_wi K) ∧ PySem.W.findIn K (.ref C) "__init__" = some (some (.ref fI)) ∧ PySem.W.typeIn K (.ref fI) = some (.type "function") ∧ Binds K fd ["self", "value"] []
/-- an error's dict -/
abbrev xv (v : V) : HO := .xd [(("value" : Str), v)]
theorem WE.mono {X : Cx} {σ : L2.St} {H : Hp} {Q Q' : VK} {e : Expr} (h : WE X e σ H Q) (hq : ∀ v H, Q v H → Q' v H) : WE X e σ H Q' :=
  ⟨fun σ H Q' => ∃ Q, WE X e σ H Q ∧ ∀ v H, Q v H → Q' v H, ⟨fun pins s σ H Q' I h' => by
    obtain ⟨Q, h1, h2⟩ := h'
    exact thn (WE.pe.run pins s σ H Q I h1) fun u s1 ⟨v, H1, I1, r, q⟩ => ⟨v, H1, I1, r, h2 _ _ q⟩⟩, Q, h, hq⟩
theorem WA.up {X : Cx} {es : List Expr} : PA X es (fun σ H Q => ∃ Q0, WA X es σ H Q0 ∧ ∀ vs H, Q0 vs H → Q vs H) := ⟨fun pos pins s σ H Q I h => by
  obtain ⟨Q0, h1, h2⟩ := h
  exact thn (WA.pa.run pos pins s σ H Q0 I h1) fun us s1 ⟨vs, H1, I1, r, q⟩ => ⟨vs, H1, I1, r, h2 _ _ q⟩⟩
section
variable {X : Cx} {σ : L2.St} {H : Hp} {Q : VK} {D : Ends} {a b e o : Expr} {p p' pos pos2 : Pos} {x : Str} {C : Addr} {W : WX} {f : Str}
/-- self.f = e of an error that is being made -/
theorem s_ost (hs : swapsWith e (some (.Attribute o f p')) pos.line X.env = pure false := by rfl) (h : tOst X.K f (WE X o) (WE X e) D σ H) : WS X (.Assign [.Attribute o f p'] e pos) D σ H := ⟨_, ps_ost WE.pe WE.pe hs, h⟩
/-- raise X(e) -/
theorem s_raiseO (T : ExC X.prog X.w X.K X.mg X.base x C) (tk : Takes X W) (hr : Room 2 X.A) (hc : X.calm = true := by rfl) (hg : Gl X x := by rfl) (hdb : (x == ("__debug__" : Str)) = false := by decide)
    (he : starEach (e :: []) X.env = (false, eval e X.env) :: starEach [] X.env := by rfl) (hpl : (backTo pos (starEach [] X.env)).any (·.1) = false := by rfl)
    (h : WE X e σ H fun v H1 => ∀ d H', (∀ q u, H1 q = some u → H' q = some u) → (∀ q, H1 q ≠ none → H' q ≠ none) → H1 d = none → H' d = some (xv v) → W (.ref C) (some d) σ H') : WS X (.Raise (some (.Call (.Name x p) [e] [] pos)) none pos2) D σ H := by
  obtain ⟨fI, fd, F, hi, ht, hb⟩ := T.ini
  refine ⟨_, ps_raise hc tk (pmk_oex (es := []) (dvs := []) (ds := []) T.ox hi ht F hr hb .nil pass0 hg T.gC WA.pa hdb he hpl), ?_⟩
  refine a_cons he (h := WE.mono h fun v H1 hv => a_nil ?_)
  refine ⟨(by decide : 1 ≤ 1000), fun a ha => ⟨a, C, v, rfl, T.ox, T.nv, upd_same, fun dx h1 h2 => ⟨rfl, dx, [(("value" : Str), v)], upd_same, ?_, upd_none h1, ?_⟩⟩⟩
  · rw [upd_ne h2, upd_same]
  · have hd1 : H1 dx = none := upd_none h1
    have key : ∀ q u, H1 q = some u → upd (del (upd (upd (upd H1 a (exo a C none)) dx (exd dx [(("value" : Str), v)])) a (exo a C (some dx))) a) dx (xv v) q = some u := fun q u hq => by
      have n1 : q ≠ a := ne_of_none hq ha
      have n2 : q ≠ dx := ne_of_none hq hd1
      rw [upd_ne n2, del_ne n1, upd_ne n1, upd_ne n2, upd_ne n1]
      exact hq
    refine hv dx _ key (fun q hq => ?_) hd1 upd_same
    cases e' : H1 q with
    | none => exact absurd e' hq
    | some u =>
      rw [key q u e']
      exact fun z => nomatch z
/-- err.f in an except suite -/
theorem e_xf {a : Addr} {oe : Obj} {cls : Value} {d : Option Addr} {pn : List (Addr × Obj)} (T : XfC X.K C) (hno : PySem.W.findIn X.K (.ref C) f = some none) (hz : Zc cls d oe) (hf : ∃ vs, oe.data = .fields vs)
    (hb : attributeBase e f X.env (eval e X.env) = eval e X.env := by rfl) (h : WE (X.suite a ((a, oe) :: pn)) e σ H fun y H1 => y = .ref a ∧ cls = .ref C ∧ ∃ (dd : Addr) (fs : List (Str × V)) (v : V), d = some dd ∧ H1 dd = some (.xd fs) ∧ fs.lookup f = some v ∧ Q v H1) :
    WE (X.suite a ((a, oe) :: pn)) (.Attribute e f pos) σ H Q := ⟨_, pe_xf T hno hz hf WE.pe hb, h⟩
/-- the ends of an except suite whose error has the name in slot i -/
abbrev wipedAt (i : Nat) (D : Ends) : Ends := { nx := fun σ' H' => D.nx (σ'.set i none) H', rt := D.rt, bk := fun σ' H' => D.bk (σ'.set i none) H', ct := fun σ' H' => D.ct (σ'.set i none) H' }
/-- try: body / except x as n: suite -/
theorem s_tryAs (i : Nat) {n : Str} {np : Pos} {body suite : List Stmt} {b₀ : Stmt} {c : Addr} (hN : X.N.Nodup) (hm : X.mg x = some (.ref c)) (hs : X.stack = X.env :: X.outer := by rfl) (hf : X.env.frame = some X.env.locals := by rfl) (hi : X.N[i]? = some n := by rfl) (hln : X.env.kindOf n = some .local := by rfl)
    (hg : Gl X x := by rfl) (hdb : (x == ("__debug__" : Str)) = false := by decide)
    (h : ∀ (W : WX) (pn : List (Addr × Obj)) (xe : Value → Shared → Prop), Takes (X.tr pn xe) W → PassesOwn (model X.prog X.w) X.A X.env xe →
      (∀ (C dd : Addr) (σ' : L2.St) (H' : Hp), PySem.W.exmOne X.K (.ref C) (.ref c) = some true →
        (∀ (a : Addr) (oe : Obj) (pn : List (Addr × Obj)), Zc (.ref C) (some dd) oe → (∃ vs, oe.data = .fields vs) → H' a = none → WSs (X.suite a ((a, oe) :: pn)) (b₀ :: suite) (wipedAt i D) (σ'.set i (some (.ref a))) H') → W (.ref C) (some dd) σ' H') →
      WSs (X.tr pn xe) body D σ H) : WS X (.Try body [.ExceptHandler (some (.Name x np)) (some n) (b₀ :: suite) p'] [] [] pos) D σ H := by
  refine ⟨_, ps_try_as (i := i) (tb := fun W D σ H => ∀ pn xe, Takes (X.tr pn xe) W → PassesOwn (model X.prog X.w) X.A X.env xe → WSs (X.tr pn xe) body D σ H)
    (ts := fun a cls d D' σ' H' => ∀ (oe : Obj) (pn : List (Addr × Obj)), Zc cls d oe → (∃ vs, oe.data = .fields vs) → WSs (X.suite a ((a, oe) :: pn)) (b₀ :: suite) D' σ' H') (Wout := fun _ _ _ _ => False) hs hf hN hi hln ⟨hg, hdb, .inl hm⟩ takes0
    (fun W pn xe tk po => ⟨fun pins s σ H D I h => WSs.pss.run pins s σ H D I (h pn xe tk po)⟩) (fun a oe cls d pn hz hf' => ⟨fun pins s σ H D I h => WSs.pss.run pins s σ H D I (h oe pn hz hf')⟩), ?_⟩
  intro pn xe tk po
  exact h _ pn xe tk po fun C dd σ' H' te hsu => ⟨true, te, fun _ a ha oe pn hz hf' => hsu a oe pn hz hf' ha, fun z => nomatch z⟩
/-- n += e, ints -/
theorem s_augAdd (i : Nat) {n : Str} (hN : X.N.Nodup) (hi : X.N[i]? = some n := by rfl) (hx : Loc X.env.scope n := by first | exact Or.inl rfl | exact Or.inr rfl) (hf : X.fn n = true ∨ X.env.scope.names.lookup n = some .local := by first | exact .inl rfl | exact .inr rfl | assumption)
    (h : ∃ v, σ[i]? = some (some v) ∧ WE X e σ H fun y H1 => ∃ a b, v = .int a ∧ y = .int b ∧ D.nx (σ.set i (some (.int (a + b)))) H1) : WS X (.AugAssign (.Name n p') .Add e pos) D σ H := ⟨_, ps_aug hN hi hx WE.pe ip_add hf, h⟩
end

/-! ### zip of tuples -/
section
variable {K : PySem.W.Frag} {a b : Addr} {xs ys : List V}
theorem walk_zipT {n : Nat} (hn : n = min xs.length ys.length) : Walk (RZ.ItzT K a b) n (fun H => SqT K H a xs ∧ SqT K H b ys) (YPair (fun i => xs[i]?) (fun i => ys[i]?)) := by
  subst hn
  refine ⟨fun i _ hi q => ?_, fun _ q => ⟨xs, ys, q.1, q.2, by omega⟩, fun i H v H' _ q y => ?_⟩
  · have h1 : i < xs.length := by omega
    have h2 : i < ys.length := by omega
    exact ⟨xs, ys, xs[i], ys[i], q.1, q.2, by simp [h1], by simp [h2]⟩
  · obtain ⟨T, x, z, h1, h2, h3, h4, h5⟩ := y
    exact ⟨T, x, z, h1, h2, h3, h4 xs q.1, h5 ys q.2⟩
end
theorem i_zipT {X : Cx} {σ : L2.St} {H : Hp} {a b : Expr} {pos p2 : Pos} {R : It → Hp → Prop} {elts : List Expr} {kk : Nat} {tpos : Pos} (hm : X.mg "zip" = none) (hg : Gl X "zip" := by rfl) (hs : starEach [a, b] X.env = (false, eval a X.env) :: starEach [b] X.env := by rfl) (hpl : (backTo pos (starEach [b] X.env)).any (·.1) = false := by rfl)
    (h : WA X [a, b] σ H fun vs H1 => ∃ p q xs ys, vs = [.ref p, .ref q] ∧ SqT X.K H1 p xs ∧ SqT X.K H1 q ys ∧ R (RZ.ItzT X.K p q) H1) : WI X (.Tuple elts kk tpos) (.Call (.Name "zip" p2) [a, b] [] pos) σ H R := by
  exact ⟨_, RZ.pi_zipA hg hm WA.up hs hpl, _, h, fun vs H1 ⟨p, q, xs, ys, e, h1, h2, r⟩ => ⟨p, q, xs, ys, e, .inr ⟨h1, h2, r⟩⟩⟩

/-! ### defs of the text -/
def Fn (K : PySem.W.Frag) (mg : Str → Option Value) (x : Str) (st : Stmt) : Prop := ∃ f fd, Fun K x x st f fd ∧ mg x = some (.ref f)
section
variable {P : Program} {w : World} {K : PySem.W.Frag} {mg : Str → Option Value} {base : Heap} {x : Str} {st : Stmt} {N ps ks : List Str} {k : Nat} {sp : Sp}
abbrev BodyOk (P : Program) (w : World) (K : PySem.W.Frag) (mg : Str → Option Value) (base : Heap) (x : Str) (st : Stmt) (N : List Str) (k : Nat) (sp : Sp) : Prop :=
  ∀ (f : Addr) (cdv : Value) (A : Around) (outer : List Env) (s : Shared) (H : Hp) (vs : List V) (Q : VK) (E : XK), Room k (A.deeper (PyProof.Rows.envOfC x (defScope st) s.heap.objs.size f cdv)) → sp vs H Q E →
      WSs (cxOf CX0 P w K mg base N x (defScope st) f cdv A outer s H E).nox (defBody st) { nx := fun _ H' => Q .non H', rt := Q } (start N vs) H
/-- .. of a def that may raise -/
abbrev BodyOkX (P : Program) (w : World) (K : PySem.W.Frag) (mg : Str → Option Value) (base : Heap) (x : Str) (st : Stmt) (N : List Str) (k : Nat) (sp : Sp) : Prop :=
  ∀ (f : Addr) (cdv : Value) (A : Around) (outer : List Env) (s : Shared) (H : Hp) (vs : List V) (Q : VK) (E : XK), Room k (A.deeper (PyProof.Rows.envOfC x (defScope st) s.heap.objs.size f cdv)) → sp vs H Q E →
      Takes (cxOf (L2.CX P w) P w K mg base N x (defScope st) f cdv A outer s H E) (fun cls d _ H => E cls d H) → PassesOwn (model P w) (cxOf (L2.CX P w) P w K mg base N x (defScope st) f cdv A outer s H E).A (cxOf (L2.CX P w) P w K mg base N x (defScope st) f cdv A outer s H E).env (cxOf (L2.CX P w) P w K mg base N x (defScope st) f cdv A outer s H E).xe →
      WSs (cxOf (L2.CX P w) P w K mg base N x (defScope st) f cdv A outer s H E) (defBody st) { nx := fun _ H' => Q .non H', rt := Q } (start N vs) H
theorem ok_of (S : FnScope N ps (defScope st)) (len : ∀ vs H Q E, sp vs H Q E → vs.length = ps.length) (body : BodyOk P w K mg base x st N k sp) : ∀ f fd, Fun K x x st f fd → FnOk P w K mg base CX0 (k + 1) f fd ps sp :=
  fun f fd F => F.ok S len (body f)
theorem okX_of (S : FnScope N ps (defScope st)) (len : ∀ vs H Q E, sp vs H Q E → vs.length = ps.length) (body : BodyOkX P w K mg base x st N k sp) : ∀ f fd, Fun K x x st f fd → FnOk P w K mg base (L2.CX P w) (k + 1) f fd ps sp :=
  fun f fd F => F.okX S len fun cdv A outer s H vs Q E hr hsp => body f cdv A outer s H vs Q E hr hsp (takes_of rfl rfl rfl rfl) (passes_of rfl)
theorem cal_fn (d : Fn K mg x st) (ok : ∀ f fd, Fun K x x st f fd → FnOk P w K mg base CX0 k f fd ps sp)
    (hb : ∀ (kV doc pm : Value) (an : Option Addr) (cdv ct : Value) (us : List Value), us.length = ps.length → bindArgs (PySem.W.fnOf x x (defArgs st) (defBody st) (defScope st) .none kV doc pm an cdv ct) ⟨us, []⟩ = pure (ps.zip us)) : Cal P w K mg base x k ps sp := by
  obtain ⟨f, fd, F, hm⟩ := d
  exact ⟨f, fd, ok f fd F, hm, F.kp, F.binds hb⟩
theorem calX_fn (d : Fn K mg x st) (ok : ∀ f fd, Fun K x x st f fd → FnOk P w K mg base (L2.CX P w) k f fd ps sp)
    (hb : ∀ (kV doc pm : Value) (an : Option Addr) (cdv ct : Value) (us : List Value), us.length = ps.length → bindArgs (PySem.W.fnOf x x (defArgs st) (defBody st) (defScope st) .none kV doc pm an cdv ct) ⟨us, []⟩ = pure (ps.zip us)) : CalX P w K mg base x k ps sp := by
  obtain ⟨f, fd, F, hm⟩ := d
  exact ⟨f, fd, ok f fd F, hm, F.kp, F.binds hb⟩
theorem calK_fn (g : {α : Type} → List α → List α) (d : Fn K mg x st) (ok : ∀ f fd, Fun K x x st f fd → FnOk P w K mg base CX0 k f fd ps sp) (hg : ∀ {vs : List V} {us : List Value}, Vals vs us → Vals (g vs) (g us))
    (hb : ∀ (kV doc pm : Value) (an : Option Addr) (cdv ct : Value) (ws : List Value), ws.length = ks.length → bindArgs (PySem.W.fnOf x x (defArgs st) (defBody st) (defScope st) .none kV doc pm an cdv ct) ⟨[], ks.zip ws⟩ = pure (ps.zip (g ws))) : CalK P w K mg base x k ps ks g sp := by
  obtain ⟨f, fd, F, hm⟩ := d
  refine ⟨f, fd, fun _ ws => g ws, ok f fd F, hm, F.kp, ⟨fun s us ws _ l1 l2 => ?_, fun _ r => hg r⟩⟩
  have e : us = [] := List.length_eq_zero_iff.mp l1
  subst e
  obtain ⟨oc, od, kV, doc, pm, an, cdv, ct, osl, rfl, lk, hcd⟩ := F.ex
  exact BindsTo.of_eq (hb kV doc pm an cdv ct ws l2)
theorem calKX_fn (g : {α : Type} → List α → List α) (d : Fn K mg x st) (ok : ∀ f fd, Fun K x x st f fd → FnOk P w K mg base (L2.CX P w) k f fd ps sp) (hg : ∀ {vs : List V} {us : List Value}, Vals vs us → Vals (g vs) (g us))
    (hb : ∀ (kV doc pm : Value) (an : Option Addr) (cdv ct : Value) (ws : List Value), ws.length = ks.length → bindArgs (PySem.W.fnOf x x (defArgs st) (defBody st) (defScope st) .none kV doc pm an cdv ct) ⟨[], ks.zip ws⟩ = pure (ps.zip (g ws))) : CalKX P w K mg base x k ps ks g sp := by
  obtain ⟨f, fd, F, hm⟩ := d
  refine ⟨f, fd, fun _ ws => g ws, ok f fd F, hm, F.kp, ⟨fun s us ws _ l1 l2 => ?_, fun _ r => hg r⟩⟩
  have e : us = [] := List.length_eq_zero_iff.mp l1
  subst e
  obtain ⟨oc, od, kV, doc, pm, an, cdv, ct, osl, rfl, lk, hcd⟩ := F.ex
  exact BindsTo.of_eq (hb kV doc pm an cdv ct ws l2)
end
end Lw
namespace Lw
open PySem L2 Evl
/-! ### what many defs hand back -/
/-- a new list of such data, the caller's | data that stay -/
def RetL {β : Type} [DecidableEq β] [Dat β] (K : PySem.W.Frag) (B H : Hp) (Q : VK) (ys : List β) : Prop := ∀ D B' H' acc, Gr M0 B H B' H' → B' D = none → H D = none → H' D = some (.lst acc) → Das K B' acc ys → Q (.ref D) H'
def RetD {β : Type} [DecidableEq β] [Dat β] (K : PySem.W.Frag) (B H : Hp) (Q : VK) (y : β) : Prop := ∀ v B' H', Gr M0 B H B' H' → Dt K B' v y → Q v H'
theorem RetD.l {K : PySem.W.Frag} {β : Type} [DecidableEq β] [Dat β] {B H : Hp} {Q : VK} {ys : List β} (h : RetD K B H Q ys) : RetL K B H Q ys := fun D B' H' acc g b h0 e d =>
  h (.ref D) (upd B' D (.lst acc)) H' (g.learn h0 b e) (dtL (SqL.of upd_same) (d.mono (Ex.new b)))
/-- an error with a number, raised when all that was tracked stands as it was -/
def Rai (C : Addr) (H : Hp) (E : XK) (n : Int) : Prop := ∀ d H', Ex H H' → H d = none → H' d = some (xv (.int n)) → E (.ref C) (some d) H'
theorem Rai.up {C : Addr} {H H1 : Hp} {E : XK} {n : Int} (h : Rai C H E n) (e : Ex H H1) : Rai C H1 E n := fun d H' e' hd hx => h d H' (e.trans e') (fresh_back e hd) hx
theorem gr_ex {B H H' : Hp} (k : Ex B H) (e : Ex H H') : Gr M0 B H B H' := by
  refine ⟨.refl B, k.trans e, fun a o _ h => e a o h, fun a h => ?_, fun a h _ => h⟩
  cases q : H a with
  | none => exact absurd q h
  | some u => rw [e a u q]; exact fun z => nomatch z
/-! ### pairs of ints -/
abbrev I2 := Int × Int
section
variable {K : PySem.W.Frag} {B : Hp} {v : V}
theorem dt_i2 {p : I2} (h : Dt K B v p) : ∃ a, v = .ref a ∧ SqT K B a [.int p.1, .int p.2] := by
  obtain ⟨a, y, z, e, hT, d1, d2⟩ := dt_pair h
  cases dt_int d1
  cases dt_int d2
  exact ⟨a, e, hT⟩
theorem dtI2 {a : Addr} {x y : Int} (h : SqT K B a [.int x, .int y]) : Dt K B (.ref a) ((x, y) : I2) := dtP h (dtI x) (dtI y)
end
/-! ### Python's max, min, abs -/
theorem py_max (i j : Int) : (if j > i then j else i) = max i j := by split <;> omega
theorem py_min (i j : Int) : (if j < i then j else i) = min i j := by split <;> omega
theorem py_abs (i : Int) : (if i < 0 then -i else i) = (i.natAbs : Int) := by split <;> omega
theorem sq_int {n : Nat} {i : Int} (h : i.natAbs < n) (m : Nat) (hm : n ≤ m) : i.natAbs < m := Nat.lt_of_lt_of_le h hm
/-! ### isinstance of what is read -/
theorem tyx_t {K : PySem.W.Frag} {H : Hp} {a : Addr} {xs : List V} (h : SqT K H a xs) : TyX K H (.ref a) (.type "tuple") := by
  rcases h with (h | ⟨o, h⟩) | ⟨o, its, n, h1, h2, _⟩
  · exact .base (.tup h)
  · exact .fTuple h
  · exact .kTuple h1 h2
theorem tyx_l {K : PySem.W.Frag} {H : Hp} {a : Addr} {xs : List V} (h : SqL K H a xs) : TyX K H (.ref a) (.type "list") := by
  rcases h with (h | ⟨o, h⟩) | ⟨o, its, n, h1, h2, _⟩
  · exact .base (.lst h)
  · exact .base (.frz h)
  · exact .kList h1 h2
/-- len(range(i, j)) -/
theorem call_lenRng {X : Cx} : CallR X (.builtin "len") (fun xs H Q => ∃ (p : Addr) (i j : Int), xs = [.ref p] ∧ H p = some (.rng i j) ∧ j - i < 2 ^ 62 ∧ Q (.int ((j - i).toNat : Nat)) H) := by
  intro pins s σ H xs us Q I r h
  obtain ⟨p, i, j, rfl, hp, hl, q⟩ := h
  obtain ⟨u1, rfl, r1⟩ := vals1 r
  cases (show u1 = Value.ref p from r1)
  have hx : ObjOk X.prog X.w H s.heap p (.rng i j) := I.hok p _ hp
  obtain ⟨t, u, v, e⟩ := hx
  exact call_len_range e (PyProof.Rows.rangeSize_nat i j) (by omega) ⟨.int _, H, I.tok _, ⟨_, rfl⟩, q⟩
theorem bnm_range : bootBuiltins "range" = some (.type "range") := by decide +kernel
theorem bnm_list : bootBuiltins "list" = some (.type "list") := by decide +kernel
theorem bnm_tuple : bootBuiltins "tuple" = some (.type "tuple") := by decide +kernel
theorem bnm_bool : bootBuiltins "bool" = some (.type "bool") := by decide +kernel
theorem bnm_int : bootBuiltins "int" = some (.type "int") := by decide +kernel
theorem fm_map {α β : Type} (f : α → β) : ∀ l : List α, l.filterMap (fun a => some (f a)) = l.map f
  | [] => rfl
  | a :: l => by rw [List.filterMap_cons, fm_map f l]; rfl
end Lw
local macro_rules | `(tactic| walk_at "nm") => `(tactic| with_unfolding_all first
  | refine Lw.e_name 0 (q := ?_) | refine Lw.e_name 1 (q := ?_) | refine Lw.e_name 2 (q := ?_) | refine Lw.e_name 3 (q := ?_) | refine Lw.e_name 4 (q := ?_) | refine Lw.e_name 5 (q := ?_) | refine Lw.e_name 6 (q := ?_) | refine Lw.e_name 7 (q := ?_) | refine Lw.e_name 8 (q := ?_) | refine Lw.e_name 9 (q := ?_) | refine Lw.e_name 10 (q := ?_) | refine Lw.e_name 11 (q := ?_) | refine Lw.e_name 12 (q := ?_))
local macro_rules | `(tactic| walk_at "ii") => `(tactic| refine ⟨_, _, rfl, rfl, ?_⟩)
local macro_rules | `(tactic| walk_at "e") => `(tactic| first
  | walk_at "nm" | refine Lw.e_int ?_ | refine Lw.e_non ?_ | refine Lw.e_bl ?_ | refine Lw.e_str ?_
  | refine Lw.a_nil ?_ | refine Lw.a_cons (h := ?_) | refine Lw.k_nil ?_ | refine Lw.k_cons ?_
  | refine Lw.e_if ?_ | refine Lw.e_and ?_ | refine Lw.e_or ?_ | refine Lw.e_one ?_ | refine Lw.e_not ?_ | refine Lw.e_lst ?_ | refine Lw.e_tup ?_ | refine Lw.e_neg ?_)
local macro_rules | `(tactic| walk_at "E") => `(tactic| repeat walk_at "e")
namespace K34
open PySem L2 Evl Lw
def top (i : Nat) : Stmt := PySem.Challenge.pw_listwindow_k34_turns_tick_by_tick.main.body.getD i (.Pass ⟨0, 0, 0, 0⟩)
abbrev s_wi : Stmt := inClass (top 1) 0
abbrev s_cn : Stmt := top 4
abbrev s_ch : Stmt := top 5
abbrev s_ro : Stmt := top 7
abbrev s_tb : Stmt := top 8
abbrev s_cm : Stmt := top 9
abbrev s_cs : Stmt := top 10
abbrev s_tl : Stmt := top 11
abbrev s_ct : Stmt := top 12
abbrev s_lo : Stmt := top 13
abbrev s_cl : Stmt := top 14
abbrev s_jug : Stmt := top 16
abbrev s_pour : Stmt := top 17
abbrev s_turns : Stmt := top 18
abbrev s_ticks : Stmt := top 19
abbrev s_due : Stmt := top 20
abbrev s_ref : Stmt := top 21
abbrev s_right : Stmt := top 22
abbrev s_gr : Stmt := top 23
abbrev s_cr : Stmt := top 24
abbrev s_rr : Stmt := top 25
abbrev s_law : Stmt := top 26
end K34
namespace K34
open PySem L2 Evl Lw
section
variable {P : Program} {w : World} {K : PySem.W.Frag} {mg : Str → Option Value} {base : Heap} {C : Addr}
/-! ### the mathematics -/
def clipF (room x : Int) : Int := max (min x room) 0
def tlStep (r : I2) (s : I2 × I2) (t : Int) : I2 × I2 :=
  ((clipF r.1 (s.1.1 + t), clipF r.2 (s.1.2 + s.1.1 + t - clipF r.1 (s.1.1 + t))),
    (s.2.1 + max (s.1.1 + s.1.2 + t - clipF r.1 (s.1.1 + t) - clipF r.2 (s.1.2 + s.1.1 + t - clipF r.1 (s.1.1 + t))) 0,
      s.2.2 + max (-(s.1.1 + s.1.2 + t - clipF r.1 (s.1.1 + t) - clipF r.2 (s.1.2 + s.1.1 + t - clipF r.1 (s.1.1 + t)))) 0))
def tlF (r s : I2) (ts : List Int) : I2 × I2 := ts.foldl (tlStep r) (s, (0, 0))
def dueF (r s : I2) : Option Int := if r.1 < 0 then some r.1 else if r.2 < 0 then some r.2 else if s.1 < 0 ∨ r.1 < s.1 then some s.1 else if s.2 < 0 ∨ r.2 < s.2 then some s.2 else none
def dueR (r : I2) : Option Int := if r.1 < 0 then some r.1 else if r.2 < 0 then some r.2 else none

/-! WindowError.__init__ -/
theorem sc_wi : FnScope ["self", "value"] ["self", "value"] (defScope s_wi) := ⟨rfl, rfl, rfl, by decide +kernel, rfl, by decide +kernel, by decide +kernel⟩
theorem ok_wi {f : Addr} {fd : FuncData} (F : Fun K "__init__" "WindowError.__init__" s_wi f fd) : FnOk P w K mg base CX0 1 f fd ["self", "value"] (sp_wi K) := by
  refine F.ok sc_wi (fun vs H Q E h => by obtain ⟨_, _, _, rfl, _⟩ := h; rfl) (fun cdv A outer s H vs Q E hr h => ?_)
  obtain ⟨a, C', v, rfl, ox, nv, ha, k⟩ := h
  refine s_one (s_ost (h := ?_))
  show Lw.WE _ _ _ _ _
  walk_at "E"
  exact ⟨a, C', rfl, ox, nv, .inl ⟨ha, k⟩⟩

/-! check_number -/
theorem sc_cn : FnScope ["number"] ["number"] (defScope s_cn) := ⟨rfl, rfl, rfl, by decide +kernel, rfl, by decide +kernel, by decide +kernel⟩
def sp_cn (C : Addr) : Sp := fun vs H Q E => ∃ n : Int, vs = [.int n] ∧ (0 ≤ n → Q .non H) ∧ (n < 0 → Rai C H E n)
theorem ok_cn (T : ExC P w K mg base "InvalidNumber" C) : ∀ f fd, Fun K "check_number" "check_number" s_cn f fd → FnOk P w K mg base (L2.CX P w) 3 f fd ["number"] (sp_cn C) := by
  refine okX_of sc_cn (fun vs H Q E h => by obtain ⟨n, rfl, _⟩ := h; rfl) (fun f cdv A outer s H vs Q E hr h tk po => ?_)
  obtain ⟨n, rfl, h0, h1⟩ := h
  refine s_one (s_if (t_cmp op_lt (h := ?_)))
  walk_at "E"
  refine ⟨_, _, rfl, rfl, _, rfl, ifd (fun h => ?_) fun h => s_nil (h0 (by omega))⟩
  refine s_one (s_raiseO T tk (hr.mono (by decide)) (h := ?_))
  walk_at "E"
  exact fun d H' e _ hd hx => h1 h d H' e hd hx

/-! check_height -/
theorem sc_ch : FnScope ["height"] ["height"] (defScope s_ch) := ⟨rfl, rfl, rfl, by decide +kernel, rfl, by decide +kernel, by decide +kernel⟩
def sp_ch (C : Addr) : Sp := fun vs H Q E => ∃ n : Int, vs = [.int n] ∧ (1 ≤ n → Q .non H) ∧ (n < 1 → Rai C H E n)
theorem ok_ch (T : ExC P w K mg base "InvalidNumber" C) : ∀ f fd, Fun K "check_height" "check_height" s_ch f fd → FnOk P w K mg base (L2.CX P w) 3 f fd ["height"] (sp_ch C) := by
  refine okX_of sc_ch (fun vs H Q E h => by obtain ⟨n, rfl, _⟩ := h; rfl) (fun f cdv A outer s H vs Q E hr h tk po => ?_)
  obtain ⟨n, rfl, h0, h1⟩ := h
  refine s_one (s_if (t_cmp op_lt (h := ?_)))
  walk_at "E"
  refine ⟨_, _, rfl, rfl, _, rfl, ifd (fun h => ?_) fun h => s_nil (h0 (by omega))⟩
  refine s_one (s_raiseO T tk (hr.mono (by decide)) (h := ?_))
  walk_at "E"
  exact fun d H' e _ hd hx => h1 h d H' e hd hx

/-! room_of -/
theorem sc_ro : FnScope ["lines", "height"] ["lines", "height"] (defScope s_ro) := ⟨rfl, rfl, rfl, by decide +kernel, rfl, by decide +kernel, by decide +kernel⟩
def sp_ro (C : Addr) : Sp := fun vs H Q E => ∃ l h : Int, vs = [.int l, .int h] ∧ (l < 0 → Rai C H E l) ∧ (0 ≤ l → h < 1 → Rai C H E h) ∧ (0 ≤ l → 1 ≤ h → Q (.int (max (l - h) 0)) H)
theorem ok_ro (T : ExC P w K mg base "InvalidNumber" C) (mm : mg "max" = none) (e1 : CalX P w K mg base "check_number" 3 ["number"] (sp_cn C)) (e2 : CalX P w K mg base "check_height" 3 ["height"] (sp_ch C)) : ∀ f fd, Fun K "room_of" "room_of" s_ro f fd → FnOk P w K mg base (L2.CX P w) 4 f fd ["lines", "height"] (sp_ro C) := by
  refine okX_of sc_ro (fun vs H Q E h => by obtain ⟨_, _, rfl, _⟩ := h; rfl) (fun f cdv A outer s H vs Q E hr h tk po => ?_)
  obtain ⟨l, h, rfl, h0, h1, h2⟩ := h
  refine s_cons (s_expr (h := e_callX e1 tk hr (h := ?_)))
  walk_at "E"
  refine ⟨l, rfl, fun hl => ?_, fun hl => h0 hl⟩
  refine s_cons (s_expr (h := e_callX e2 tk hr (h := ?_)))
  walk_at "E"
  refine ⟨h, rfl, fun hh => ?_, fun hh => h1 hl hh⟩
  refine s_one (s_ret (e_blt (call_max2 rfl) mm (by decide +kernel) (a_cons (h := e_sub (h := ?_)))))
  walk_at "E"
  walk_at "ii"
  walk_at "E"
  refine ⟨_, _, rfl, ?_⟩
  rw [py_max]
  exact h2 hl hh

/-! _check_rooms -/
theorem sc_cm : FnScope ["rooms", "room"] ["rooms"] (defScope s_cm) := ⟨rfl, rfl, rfl, by decide +kernel, rfl, by decide +kernel, by decide +kernel⟩
def sp_cm (K : PySem.W.Frag) (C : Addr) : Sp := fun vs H Q E => ∃ (v : V) (r : I2), vs = [v] ∧ Dt K H v r ∧ (dueR r = none → Q .non H) ∧ (∀ n, dueR r = some n → Rai C H E n)
theorem ok_cm (e1 : CalX P w K mg base "check_number" 3 ["number"] (sp_cn C)) : ∀ f fd, Fun K "_check_rooms" "_check_rooms" s_cm f fd → FnOk P w K mg base (L2.CX P w) 4 f fd ["rooms"] (sp_cm K C) := by
  refine okX_of sc_cm (fun vs H Q E h => by obtain ⟨_, _, rfl, _⟩ := h; rfl) (fun f cdv A outer s H vs Q E hr h tk po => ?_)
  obtain ⟨v, r, rfl, hd, h0, h1⟩ := h
  obtain ⟨a, rfl, hT⟩ := dt_i2 hd
  refine s_one (s_for (hp := po) (h := i_tup ?_))
  walk_at "E"
  refine ⟨_, rfl, ⟨_, hT⟩, for_it walk_tup (fun i σ H' => H' = H ∧ (∃ u, σ = [some (.ref a), u]) ∧ (1 ≤ i → 0 ≤ r.1) ∧ (2 ≤ i → 0 ≤ r.2)) ⟨rfl, ⟨none, rfl⟩, fun z => absurd z (by decide), fun z => absurd z (by decide)⟩ (fun i σ H' _ ⟨e, _⟩ => e ▸ hT) ?_ ?_⟩
  · rintro i x σ H' H'' hi ⟨rfl, ⟨u, rfl⟩, g1, g2⟩ ⟨rfl, hx⟩
    match i, hi, hx, g1, g2 with
    | 0, _, hx, _, _ =>
      cases hx
      refine g_name 1 sc_cm.nd (q := ?_)
      refine s_one (s_expr (h := e_callX e1 tk hr (h := ?_)))
      walk_at "E"
      refine ⟨_, rfl, fun z => ⟨rfl, ⟨_, rfl⟩, fun _ => z, fun y => absurd y (by decide)⟩, fun z => h1 _ ?_⟩
      unfold dueR
      rw [if_pos z]
    | 1, _, hx, g1, _ =>
      cases hx
      have g1 := g1 (by decide)
      refine g_name 1 sc_cm.nd (q := ?_)
      refine s_one (s_expr (h := e_callX e1 tk hr (h := ?_)))
      walk_at "E"
      refine ⟨_, rfl, fun z => ⟨rfl, ⟨_, rfl⟩, fun _ => g1, fun y => z⟩, fun z => h1 _ ?_⟩
      unfold dueR
      rw [if_neg (by omega), if_pos z]
  · rintro σ H' ⟨rfl, _, g1, g2⟩
    have g1 := g1 (show 1 ≤ 2 by decide)
    have g2 := g2 (show 2 ≤ 2 by decide)
    refine h0 ?_
    unfold dueR
    rw [if_neg (by omega), if_neg (by omega)]

/-! _check_scrolls -/
theorem sc_cs : FnScope ["rooms", "scrolls", "room", "scroll"] ["rooms", "scrolls"] (defScope s_cs) := ⟨rfl, rfl, rfl, by decide +kernel, rfl, by decide +kernel, by decide +kernel⟩
def sp_cs (K : PySem.W.Frag) (C : Addr) : Sp := fun vs H Q E => ∃ (B : Hp) (v v2 : V) (r s : I2), vs = [v, v2] ∧ Ex B H ∧ Dt K B v r ∧ Dt K B v2 s ∧ dueR r = none ∧ (dueF r s = none → ∀ H', Ex H H' → Q .non H') ∧ (∀ n, dueF r s = some n → Rai C H E n)
theorem ok_cs (T : ExC P w K mg base "InvalidNumber" C) (mz : mg "zip" = none) : ∀ f fd, Fun K "_check_scrolls" "_check_scrolls" s_cs f fd → FnOk P w K mg base (L2.CX P w) 3 f fd ["rooms", "scrolls"] (sp_cs K C) := by
  refine okX_of sc_cs (fun vs H Q E h => by obtain ⟨_, _, _, _, _, rfl, _⟩ := h; rfl) (fun f cdv A outer s0 H vs Q E hr h tk po => ?_)
  obtain ⟨B, v, v2, r, s, rfl, kB, hd, hd2, hr0, h0, h1⟩ := h
  obtain ⟨a, rfl, hT⟩ := dt_i2 hd
  obtain ⟨b, rfl, hT2⟩ := dt_i2 hd2
  have hrr : 0 ≤ r.1 ∧ 0 ≤ r.2 := by
    unfold dueR at hr0
    split at hr0
    · cases hr0
    · split at hr0
      · cases hr0
      · omega
  have fin : ∀ {x y : Int}, (0 ≤ x ∧ x ≤ y) ∨ ¬ (0 ≤ x ∧ x ≤ y) := fun {x y} => Classical.em _
  refine s_one (s_for (hp := po) (h := i_zipT mz (h := ?_)))
  walk_at "E"
  refine ⟨_, _, _, _, rfl, ex_t kB hT, ex_t kB hT2, for_it (walk_zipT (n := 2) rfl) (fun i σ H' => Ex H H' ∧ (∃ u u', σ = [some (.ref a), some (.ref b), u, u']) ∧ (1 ≤ i → 0 ≤ s.1 ∧ s.1 ≤ r.1) ∧ (2 ≤ i → 0 ≤ s.2 ∧ s.2 ≤ r.2)) ⟨Ex.refl _, ⟨none, none, rfl⟩, fun z => absurd z (by decide), fun z => absurd z (by decide)⟩
    (fun i σ H' _ ⟨e, _⟩ => ⟨ex_t (kB.trans e) hT, ex_t (kB.trans e) hT2⟩) ?_ ?_⟩
  · rintro i x σ H' H'' hi ⟨ex, ⟨u, u', rfl⟩, g1, g2⟩ ⟨Z, x, y, rfl, hZ, rfl, hx, hy⟩
    have ex1 : Ex H (upd H' Z (.tup [x, y])) := ex.trans (Ex.new hZ)
    match i, hi, hx, hy, g1, g2 with
    | 0, _, hx, hy, _, _ =>
      cases hx
      cases hy
      refine g_tup (SqT.of upd_same) rfl (h := gs_cons (h := g_name 2 sc_cs.nd (q := gs_cons (h := g_name 3 sc_cs.nd (q := gs_nil ?_)))))
      refine s_one (s_if (t_not (t_chain op_le op_le (h := ?_))))
      walk_at "E"
      refine ⟨_, _, rfl, rfl, _, rfl, ?_⟩
      have bad : ¬ (0 ≤ s.1 ∧ s.1 ≤ r.1) → dueF r s = some s.1 := fun z => by
        unfold dueF
        rw [if_neg (by omega), if_neg (by omega), if_pos (by omega)]
      by_cases c1 : 0 ≤ s.1
      · refine ift (decide_eq_true c1) ?_
        walk_at "E"
        refine ⟨_, _, rfl, rfl, _, rfl, ?_⟩
        by_cases c2 : s.1 ≤ r.1
        · rw [decide_eq_true c2]
          exact iff_ rfl (s_nil ⟨ex1, ⟨_, _, rfl⟩, fun _ => ⟨c1, c2⟩, fun y => absurd y (by decide)⟩)
        · rw [decide_eq_false c2]
          refine ift rfl (s_one (s_raiseO T tk hr (h := ?_)))
          walk_at "E"
          exact fun d H' e _ hd hx => h1 _ (bad (by omega)) d H' (ex1.trans e) (fresh_back ex1 hd) hx
      · refine iff_ (decide_eq_false c1) ⟨_, rfl, ?_⟩
        refine ift rfl (s_one (s_raiseO T tk hr (h := ?_)))
        walk_at "E"
        exact fun d H' e _ hd hx => h1 _ (bad (by omega)) d H' (ex1.trans e) (fresh_back ex1 hd) hx
    | 1, _, hx, hy, g1, _ =>
      cases hx
      cases hy
      have g1 := g1 (by decide)
      refine g_tup (SqT.of upd_same) rfl (h := gs_cons (h := g_name 2 sc_cs.nd (q := gs_cons (h := g_name 3 sc_cs.nd (q := gs_nil ?_)))))
      refine s_one (s_if (t_not (t_chain op_le op_le (h := ?_))))
      walk_at "E"
      refine ⟨_, _, rfl, rfl, _, rfl, ?_⟩
      have bad : ¬ (0 ≤ s.2 ∧ s.2 ≤ r.2) → dueF r s = some s.2 := fun z => by
        unfold dueF
        rw [if_neg (by omega), if_neg (by omega), if_neg (by omega), if_pos (by omega)]
      by_cases c1 : 0 ≤ s.2
      · refine ift (decide_eq_true c1) ?_
        walk_at "E"
        refine ⟨_, _, rfl, rfl, _, rfl, ?_⟩
        by_cases c2 : s.2 ≤ r.2
        · rw [decide_eq_true c2]
          exact iff_ rfl (s_nil ⟨ex1, ⟨_, _, rfl⟩, fun _ => g1, fun y => ⟨c1, c2⟩⟩)
        · rw [decide_eq_false c2]
          refine ift rfl (s_one (s_raiseO T tk hr (h := ?_)))
          walk_at "E"
          exact fun d H' e _ hd hx => h1 _ (bad (by omega)) d H' (ex1.trans e) (fresh_back ex1 hd) hx
      · refine iff_ (decide_eq_false c1) ⟨_, rfl, ?_⟩
        refine ift rfl (s_one (s_raiseO T tk hr (h := ?_)))
        walk_at "E"
        exact fun d H' e _ hd hx => h1 _ (bad (by omega)) d H' (ex1.trans e) (fresh_back ex1 hd) hx
  · rintro σ H' ⟨ex, _, g1, g2⟩
    have g1 := g1 (by decide)
    have g2 := g2 (by decide)
    refine h0 ?_ H' ex
    unfold dueF
    rw [if_neg (by omega), if_neg (by omega), if_neg (by omega), if_neg (by omega)]

/-! _clipped_to -/
theorem sc_ct : FnScope ["room", "scroll"] ["room", "scroll"] (defScope s_ct) := ⟨rfl, rfl, rfl, by decide +kernel, rfl, by decide +kernel, by decide +kernel⟩
def sp_ct : Sp := fun vs H Q _ => ∃ r x : Int, vs = [.int r, .int x] ∧ Q (.int (clipF r x)) H
theorem ok_ct (mm : mg "max" = none) (mi : mg "min" = none) : ∀ f fd, Fun K "_clipped_to" "_clipped_to" s_ct f fd → FnOk P w K mg base CX0 1 f fd ["room", "scroll"] sp_ct := by
  refine ok_of sc_ct (fun vs H Q E h => by obtain ⟨_, _, rfl, _⟩ := h; rfl) (fun f cdv A outer s H vs Q E hr h => ?_)
  obtain ⟨r, x, rfl, k⟩ := h
  refine s_one (s_ret (e_blt (call_max2 rfl) mm (by decide +kernel) (a_cons (h := e_blt (call_min2 rfl) mi (by decide +kernel) ?_))))
  walk_at "E"
  refine ⟨_, _, rfl, ?_⟩
  walk_at "E"
  refine ⟨_, _, rfl, ?_⟩
  rw [py_max, py_min]
  exact k
end
end K34
namespace K34
open PySem L2 Evl Lw
section
variable {P : Program} {w : World} {K : PySem.W.Frag} {mg : Str → Option Value} {base : Heap} {C : Addr}
/-! _turned_and_lost -/
abbrev N_tl : List Str := ["rooms", "scrolls", "turns", "window", "page", "down", "up", "turn", "moved", "paged", "rest"]
theorem sc_tl : FnScope N_tl ["rooms", "scrolls", "turns"] (defScope s_tl) := ⟨rfl, rfl, rfl, by decide +kernel, rfl, by decide +kernel, by decide +kernel⟩
def sp_tl (K : PySem.W.Frag) : Sp := fun vs H Q _ => ∃ (B : Hp) (v v2 v3 : V) (r s : I2) (ts : List Int), vs = [v, v2, v3] ∧ Ex B H ∧ Dt K B v r ∧ Dt K B v2 s ∧ Dt K B v3 ts ∧ RetD K B H Q (tlF r s ts)
theorem tl_next {r s : I2} {ts : List Int} {i : Nat} {t : Int} (h : ts[i]? = some t) : tlF r s (ts.take (i + 1)) = tlStep r (tlF r s (ts.take i)) t := by
  unfold tlF
  rw [take_next h, List.foldl_append]
  rfl
theorem ok_tl (mm : mg "max" = none) (e1 : Cal P w K mg base "_clipped_to" 1 ["room", "scroll"] sp_ct) : ∀ f fd, Fun K "_turned_and_lost" "_turned_and_lost" s_tl f fd → FnOk P w K mg base CX0 2 f fd ["rooms", "scrolls", "turns"] (sp_tl K) := by
  refine ok_of sc_tl (fun vs H Q E h => by obtain ⟨_, _, _, _, _, _, _, rfl, _⟩ := h; rfl) (fun f cdv A outer s0 H vs Q E hr h => ?_)
  obtain ⟨B, v, v2, v3, r, s, ts, rfl, kB, hd, hd2, hd3, k⟩ := h
  obtain ⟨a, rfl, hT⟩ := dt_i2 hd
  obtain ⟨b, rfl, hT2⟩ := dt_i2 hd2
  obtain ⟨c, cvs, rfl, hL, hA⟩ := dt_list hd3
  have ei := hA.ints
  subst ei
  have hT' := ex_t kB hT
  refine s_cons (s_asg (h := ?_))
  walk_at "E"
  refine g_tup (ex_t kB hT2) rfl (h := gs_cons (h := g_name 3 sc_tl.nd (q := gs_cons (h := g_name 4 sc_tl.nd (q := gs_nil ?_)))))
  refine s_cons (s_set 5 sc_tl.nd (h := ?_))
  walk_at "E"
  refine s_cons (s_set 6 sc_tl.nd (h := ?_))
  walk_at "E"
  refine s_cons (s_for (h := i_list ?_))
  walk_at "E"
  refine ⟨_, rfl, ⟨_, ex_l kB hL⟩, for_it walk_list (fun i σ H' => H' = H ∧ ∃ (st : I2 × I2) (u1 u2 u3 u4 : Option V), st = tlF r s (ts.take i) ∧ σ = [some (.ref a), some (.ref b), some (.ref c), some (.int st.1.1), some (.int st.1.2), some (.int st.2.1), some (.int st.2.2), u1, u2, u3, u4])
    ⟨rfl, tlF r s (ts.take 0), none, none, none, none, rfl, rfl⟩ (fun i σ H' _ ⟨e, _⟩ => e ▸ ex_l kB hL) ?_ ?_⟩
  · rintro i x σ H' H'' hi ⟨rfl, st, u1, u2, u3, u4, est, rfl⟩ ⟨rfl, hx⟩
    rw [List.getElem?_map] at hx
    cases et : ts[i]? with
    | none => rw [et] at hx; cases hx
    | some t =>
      rw [et] at hx
      cases hx
      have nx := tl_next (r := r) (s := s) et
      rw [← est] at nx
      refine g_name 7 sc_tl.nd (q := ?_)
      refine s_cons (s_set 8 sc_tl.nd (h := e_call e1 hr (h := a_cons (h := e_ixT (h := ?_)))))
      walk_at "E"
      refine ⟨_, _, _, _, rfl, rfl, hT', rfl, ?_⟩
      refine a_cons (h := e_add (h := ?_))
      walk_at "E"
      walk_at "ii"
      walk_at "E"
      refine ⟨_, _, rfl, ?_⟩
      refine s_cons (s_set 9 sc_tl.nd (h := e_call e1 hr (h := a_cons (h := e_ixT (h := ?_)))))
      walk_at "E"
      refine ⟨_, _, _, _, rfl, rfl, hT', rfl, ?_⟩
      refine a_cons (h := e_sub (h := e_add (h := e_add (h := ?_))))
      walk_at "E"
      walk_at "ii"
      walk_at "E"
      walk_at "ii"
      walk_at "E"
      walk_at "ii"
      walk_at "E"
      refine ⟨_, _, rfl, ?_⟩
      refine s_cons (s_set 10 sc_tl.nd (h := e_sub (h := e_sub (h := e_add (h := e_add (h := ?_))))))
      walk_at "E"
      walk_at "ii"
      walk_at "E"
      walk_at "ii"
      walk_at "E"
      walk_at "ii"
      walk_at "E"
      walk_at "ii"
      refine s_cons (s_augAdd 5 sc_tl.nd (h := ⟨_, rfl, e_blt (call_max2 rfl) mm (by decide +kernel) ?_⟩))
      walk_at "E"
      refine ⟨_, _, rfl, ?_⟩
      rw [py_max]
      refine ⟨_, _, rfl, rfl, ?_⟩
      refine s_cons (s_augAdd 6 sc_tl.nd (h := ⟨_, rfl, e_blt (call_max2 rfl) mm (by decide +kernel) (a_cons (h := e_neg ?_))⟩))
      walk_at "E"
      refine ⟨_, rfl, ?_⟩
      walk_at "E"
      refine ⟨_, _, rfl, ?_⟩
      rw [py_max]
      refine ⟨_, _, rfl, rfl, ?_⟩
      refine s_one (s_par 3 4 sc_tl.nd (h := ?_))
      walk_at "E"
      exact ⟨_, _, rfl, rfl, _, _, _, _, _, nx.symm, rfl⟩
  · rintro σ H' ⟨rfl, st, u1, u2, u3, u4, est, rfl⟩
    have e2 : st = tlF r s ts := by
      rw [est, List.length_map, List.take_length]
    refine s_one (s_ret (e_tup (a_cons (h := e_tup ?_))))
    walk_at "E"
    refine ⟨by show 2 ≤ sizeLine; decide, fun p hp => ?_⟩
    refine a_cons (h := e_tup ?_)
    walk_at "E"
    refine ⟨by show 2 ≤ sizeLine; decide, fun q hq => ?_⟩
    walk_at "E"
    refine ⟨by show 2 ≤ sizeLine; decide, fun z hz => ?_⟩
    have g1 := (Gr.refl (M := M0) kB).new (o := .tup [.int st.1.1, .int st.1.2]) hp
    have g2 := g1.new (o := .tup [.int st.2.1, .int st.2.2]) hq
    have g3 := g2.new (o := .tup [.ref p, .ref q]) hz
    refine k _ _ _ g3 ?_
    have d1 : Dt K (upd B p (.tup [.int st.1.1, .int st.1.2])) (.ref p) st.1 := dtI2 (SqT.of upd_same)
    have n1 := none_of_ex g1.k hq
    have n2 := none_of_ex g2.k hz
    have d2 : Dt K (upd (upd B p (.tup [.int st.1.1, .int st.1.2])) q (.tup [.int st.2.1, .int st.2.2])) (.ref q) st.2 := dtI2 (SqT.of upd_same)
    rw [← e2]
    exact dtP (SqT.of upd_same) ((d1.mono (Ex.new n1)).mono (Ex.new n2)) (d2.mono (Ex.new n2))

theorem due_split {r s : I2} : (∀ n, dueR r = some n → dueF r s = some n) ∧ (dueF r s = none → dueR r = none) := by
  unfold dueR dueF
  constructor
  · intro n h
    split at h
    · rename_i h1
      rw [if_pos h1]
      exact h
    · rename_i h1
      rw [if_neg h1]
      split at h
      · rename_i h2
        rw [if_pos h2]
        exact h
      · cases h
  · intro h
    split at h
    · cases h
    · rename_i h1
      rw [if_neg h1]
      split at h
      · cases h
      · rename_i h2
        rw [if_neg h2]

/-! turned_by, lost -/
theorem sc_tb : FnScope ["rooms", "scrolls", "turns", "behind", "_"] ["rooms", "scrolls", "turns"] (defScope s_tb) := ⟨rfl, rfl, rfl, by decide +kernel, rfl, by decide +kernel, by decide +kernel⟩
def sp_tb (K : PySem.W.Frag) (C : Addr) : Sp := fun vs H Q E => ∃ (B : Hp) (v v2 v3 : V) (r s : I2) (ts : List Int), vs = [v, v2, v3] ∧ Ex B H ∧ Dt K B v r ∧ Dt K B v2 s ∧ Dt K B v3 ts ∧ (dueF r s = none → RetD K B H Q (tlF r s ts).1) ∧ (∀ n, dueF r s = some n → Rai C H E n)
theorem ok_tb (e1 : CalX P w K mg base "_check_rooms" 4 ["rooms"] (sp_cm K C)) (e2 : CalX P w K mg base "_check_scrolls" 3 ["rooms", "scrolls"] (sp_cs K C)) (e3 : Cal P w K mg base "_turned_and_lost" 2 ["rooms", "scrolls", "turns"] (sp_tl K)) :
    ∀ f fd, Fun K "turned_by" "turned_by" s_tb f fd → FnOk P w K mg base (L2.CX P w) 5 f fd ["rooms", "scrolls", "turns"] (sp_tb K C) := by
  refine okX_of sc_tb (fun vs H Q E h => by obtain ⟨_, _, _, _, _, _, _, rfl, _⟩ := h; rfl) (fun f cdv A outer s0 H vs Q E hr h tk po => ?_)
  obtain ⟨B, v, v2, v3, r, s, ts, rfl, kB, hd, hd2, hd3, k, k2⟩ := h
  refine s_cons (s_expr (h := e_callX e1 tk hr (h := ?_)))
  walk_at "E"
  refine ⟨_, _, rfl, hd.mono kB, fun hR => ?_, fun n hn => k2 n (due_split.1 n hn)⟩
  refine s_cons (s_expr (h := e_callX e2 tk (hr.mono (by decide)) (h := ?_)))
  walk_at "E"
  refine ⟨B, _, _, _, _, rfl, kB, hd, hd2, hR, fun hS H1 ex => ?_, fun n hn => k2 n hn⟩
  have g1 := gr_ex kB ex
  refine s_cons (s_asg (h := e_call e3 (hr.mono (by decide)) (h := ?_)))
  walk_at "E"
  refine ⟨B, _, _, _, _, _, _, rfl, g1.k, hd, hd2, hd3, fun u B2 H2 g2 du => ?_⟩
  obtain ⟨c, y, z, rfl, hT, d1, d2⟩ := dt_pair du
  refine g_tup (ex_t g2.k hT) rfl (h := gs_cons (h := g_name 3 sc_tb.nd (q := gs_cons (h := g_name 4 sc_tb.nd (q := gs_nil ?_)))))
  refine s_one (s_ret ?_)
  walk_at "E"
  exact k hS _ _ _ (g1.trans g2) d1
theorem sc_lo : FnScope ["rooms", "scrolls", "turns", "_", "told"] ["rooms", "scrolls", "turns"] (defScope s_lo) := ⟨rfl, rfl, rfl, by decide +kernel, rfl, by decide +kernel, by decide +kernel⟩
def sp_lo (K : PySem.W.Frag) (C : Addr) : Sp := fun vs H Q E => ∃ (B : Hp) (v v2 v3 : V) (r s : I2) (ts : List Int), vs = [v, v2, v3] ∧ Ex B H ∧ Dt K B v r ∧ Dt K B v2 s ∧ Dt K B v3 ts ∧ (dueF r s = none → RetD K B H Q (tlF r s ts).2) ∧ (∀ n, dueF r s = some n → Rai C H E n)
theorem ok_lo (e1 : CalX P w K mg base "_check_rooms" 4 ["rooms"] (sp_cm K C)) (e2 : CalX P w K mg base "_check_scrolls" 3 ["rooms", "scrolls"] (sp_cs K C)) (e3 : Cal P w K mg base "_turned_and_lost" 2 ["rooms", "scrolls", "turns"] (sp_tl K)) :
    ∀ f fd, Fun K "lost" "lost" s_lo f fd → FnOk P w K mg base (L2.CX P w) 5 f fd ["rooms", "scrolls", "turns"] (sp_lo K C) := by
  refine okX_of sc_lo (fun vs H Q E h => by obtain ⟨_, _, _, _, _, _, _, rfl, _⟩ := h; rfl) (fun f cdv A outer s0 H vs Q E hr h tk po => ?_)
  obtain ⟨B, v, v2, v3, r, s, ts, rfl, kB, hd, hd2, hd3, k, k2⟩ := h
  refine s_cons (s_expr (h := e_callX e1 tk hr (h := ?_)))
  walk_at "E"
  refine ⟨_, _, rfl, hd.mono kB, fun hR => ?_, fun n hn => k2 n (due_split.1 n hn)⟩
  refine s_cons (s_expr (h := e_callX e2 tk (hr.mono (by decide)) (h := ?_)))
  walk_at "E"
  refine ⟨B, _, _, _, _, rfl, kB, hd, hd2, hR, fun hS H1 ex => ?_, fun n hn => k2 n hn⟩
  have g1 := gr_ex kB ex
  refine s_cons (s_asg (h := e_call e3 (hr.mono (by decide)) (h := ?_)))
  walk_at "E"
  refine ⟨B, _, _, _, _, _, _, rfl, g1.k, hd, hd2, hd3, fun u B2 H2 g2 du => ?_⟩
  obtain ⟨c, y, z, rfl, hT, d1, d2⟩ := dt_pair du
  refine g_tup (ex_t g2.k hT) rfl (h := gs_cons (h := g_name 3 sc_lo.nd (q := gs_cons (h := g_name 4 sc_lo.nd (q := gs_nil ?_)))))
  refine s_one (s_ret ?_)
  walk_at "E"
  exact k hS _ _ _ (g1.trans g2) d2

/-! clipped -/
theorem sc_cl : FnScope ["rooms", "scrolls"] ["rooms", "scrolls"] (defScope s_cl) := ⟨rfl, rfl, rfl, by decide +kernel, rfl, by decide +kernel, by decide +kernel⟩
def sp_cl (K : PySem.W.Frag) (C : Addr) : Sp := fun vs H Q E => ∃ (B : Hp) (v v2 : V) (r s : I2), vs = [v, v2] ∧ Ex B H ∧ Dt K B v r ∧ Dt K B v2 s ∧ (dueR r = none → RetD K B H Q ((clipF r.1 s.1, clipF r.2 s.2) : I2)) ∧ (∀ n, dueR r = some n → Rai C H E n)
theorem ok_cl (e1 : CalX P w K mg base "_check_rooms" 4 ["rooms"] (sp_cm K C)) (e2 : Cal P w K mg base "_clipped_to" 1 ["room", "scroll"] sp_ct) :
    ∀ f fd, Fun K "clipped" "clipped" s_cl f fd → FnOk P w K mg base (L2.CX P w) 5 f fd ["rooms", "scrolls"] (sp_cl K C) := by
  refine okX_of sc_cl (fun vs H Q E h => by obtain ⟨_, _, _, _, _, rfl, _⟩ := h; rfl) (fun f cdv A outer s0 H vs Q E hr h tk po => ?_)
  obtain ⟨B, v, v2, r, s, rfl, kB, hd, hd2, k, k2⟩ := h
  refine s_cons (s_expr (h := e_callX e1 tk hr (h := ?_)))
  walk_at "E"
  refine ⟨_, _, rfl, hd.mono kB, fun hR => ?_, fun n hn => k2 n hn⟩
  obtain ⟨a, rfl, hT⟩ := dt_i2 hd
  obtain ⟨b, rfl, hT2⟩ := dt_i2 hd2
  refine s_one (s_ret (e_tup (a_cons (h := e_call e2 (hr.mono (by decide)) (h := a_cons (h := e_ixT (h := ?_)))))))
  walk_at "E"
  refine ⟨_, _, _, _, rfl, rfl, ex_t kB hT, rfl, a_cons (h := e_ixT (h := ?_))⟩
  walk_at "E"
  refine ⟨_, _, _, _, rfl, rfl, ex_t kB hT2, rfl, a_nil ⟨_, _, rfl, ?_⟩⟩
  refine a_cons (h := e_call e2 (hr.mono (by decide)) (h := a_cons (h := e_ixT (h := ?_))))
  walk_at "E"
  refine ⟨_, _, _, _, rfl, rfl, ex_t kB hT, rfl, a_cons (h := e_ixT (h := ?_))⟩
  walk_at "E"
  refine ⟨_, _, _, _, rfl, rfl, ex_t kB hT2, rfl, a_nil ⟨_, _, rfl, ?_⟩⟩
  walk_at "E"
  refine ⟨by show 2 ≤ sizeLine; decide, fun z hz => k hR _ _ _ ((Gr.refl kB).new hz) (dtI2 (SqT.of upd_same))⟩
end
end K34
namespace K34
open PySem L2 Evl Lw
/-! ### a jug of three ints, with what may still be poured -/
structure JAt (H : Hp) (d : Addr) (n : Nat) : Prop where
  ex : ∃ x y z : Int, H d = some (dk x y z) ∧ y.natAbs < 2 ^ 150 ∧ 0 ≤ z ∧ z + n ≤ 1000000
theorem JAt.nn {H : Hp} {d : Addr} {n : Nat} (h : JAt H d n) : H d ≠ none := by
  obtain ⟨x, y, z, e, _⟩ := h.ex
  rw [e]
  exact fun z => nomatch z
theorem JAt.exx {H H' : Hp} {d : Addr} {n : Nat} (h : JAt H d n) (e : Ex H H') : JAt H' d n := by
  obtain ⟨x, y, z, q, r⟩ := h.ex
  exact ⟨x, y, z, e _ _ q, r⟩
theorem JAt.le {H : Hp} {d : Addr} {n m : Nat} (h : JAt H d n) (l : m ≤ n) : JAt H d m := by
  obtain ⟨x, y, z, q, r1, r2, r3⟩ := h.ex
  exact ⟨x, y, z, q, r1, r2, by omega⟩
theorem JAt.ne {H : Hp} {d D : Addr} {n : Nat} (h : JAt H d n) (e : H D = none) : d ≠ D := fun z => h.nn (z ▸ e)
structure Jk (B H : Hp) (d : Addr) (n : Nat) : Prop where
  k : Ex B H
  b : B d = none
  at_ : JAt H d n
theorem Jk.gr {B H B' H' : Hp} {d : Addr} {n : Nat} (h : Jk B H d n) (g : Gr M0 B H B' H') : Jk B' H' d n := ⟨g.k, g.f d h.b h.at_.nn, h.at_.exx g.ex⟩
theorem Jk.go {B H B' H' : Hp} {d : Addr} {n m : Nat} (h : Jk B H d n) (g : Gr (Md d) B H B' H') (a : JAt H' d m) : Jk B' H' d m := ⟨g.k, g.f d h.b h.at_.nn, a⟩
theorem Jk.own {B H : Hp} {d p : Addr} {n : Nat} {o : HO} (k : Jk B H d n) (hp : H p = none) : Jk B (upd H p o) d n := k.gr ((Gr.refl k.k).own hp)
theorem Jk.new {B H : Hp} {d p : Addr} {n : Nat} {o : HO} (k : Jk B H d n) (hp : H p = none) : Jk (upd B p o) (upd H p o) d n := k.gr ((Gr.refl k.k).new hp)
theorem Jk.le {B H : Hp} {d : Addr} {n m : Nat} (k : Jk B H d n) (l : m ≤ n) : Jk B H d m := ⟨k.k, k.b, k.at_.le l⟩
section
variable {J : It} {n m : Nat} {G : Hp → Prop} {Y : Nat → Hp → V → Hp → Prop} {B H1 : Hp} {g : TG} {tt : TT} {te : TE} {vs : List Nat} {σ : L2.St} {D d : Addr} {Qd : Hp → Prop}
/-- ints that are poured, c at most for each -/
theorem lcPour (c : Nat) (w : Walk J n G Y) (P : Int → Prop) (k : Jk B H1 d (m + c * n)) (hD : H1 D = none) (hn : n < sizeLine)
    (hG : ∀ B' H' q, Gr (Md d) B H1 B' H' → Jk B' H' d q → G H')
    (hs : ∀ i q x B' H' H'', i < n → Gr (Md d) B H1 B' H' → Jk B' H' d (q + c) → Y i H' x H'' → ∀ (KT : VK) (KF : Hp → Prop), (∀ z B4 H4, Gr (Md d) B' H' B4 H4 → Jk B4 H4 d q → P z → KT (.int z) H4) →
      g x (wipe σ vs) H'' fun σ2 H2 => wipe σ2 vs = wipe σ vs ∧ tt σ2 H2 fun b H3 => if b = true then te σ2 H3 KT else KF H3)
    (hd : ∀ B' H' (ns : List Int), Gr (Md d) B H1 B' H' → Jk B' H' d m → B' D = none → H' D = some (.lst (ns.map V.int)) → ns.length = n → (∀ z ∈ ns, P z) → Qd H') : tLcR J g tt te vs σ H1 D Qd := by
  have hdD : d ≠ D := k.at_.ne hD
  refine lcB (M := Md d) w (fun i B' H' acc => Jk B' H' d (m + c * (n - i)) ∧ ∃ ns : List Int, acc = ns.map V.int ∧ ns.length = i ∧ ∀ z ∈ ns, P z) k.k hD (fun z => hdD z.symm) ⟨k, [], rfl, rfl, fun z hz => nomatch hz⟩ (fun i B' H' acc l hb ⟨⟨k1, k2, k3⟩, s⟩ => ⟨⟨fun a u e => by rw [upd_ne (ne_of_none e hb)]; exact k1 a u e, k2, ?_⟩, s⟩) (fun i B' H' acc _ g s => hG B' H' _ g s.1) ?_ ?_
  · obtain ⟨x, y, z, e, r⟩ := k3.ex
    exact ⟨x, y, z, by rw [upd_ne hdD]; exact e, r⟩
  · intro i x B' H' H'' acc hi g b e s y KT KF kt kf
    obtain ⟨dk', ns, rfl, hl, hp⟩ := s
    have eq : m + c * (n - i) = (m + c * (n - (i + 1))) + c := by
      rw [show n - i = (n - (i + 1)) + 1 by omega, Nat.mul_add, Nat.mul_one]
      omega
    rw [eq] at dk'
    refine hs i _ x B' H' H'' hi g dk' y KT KF fun z B4 H4 g4 d4 pz => kt _ B4 H4 g4 (by rw [List.length_map]; omega) ⟨d4, ns ++ [z], by rw [List.map_append]; rfl, by rw [List.length_append, hl]; rfl, fun q hq => ?_⟩
    rcases List.mem_append.mp hq with h | h
    · exact hp q h
    · rw [List.mem_singleton.mp h]; exact pz
  · intro B' H' acc g b e s
    obtain ⟨dk', ns, rfl, hl, hp⟩ := s
    exact hd B' H' ns g (dk'.le (Nat.le_add_right _ _)) b e hl hp
end
section
variable {P : Program} {w : World} {K : PySem.W.Frag} {mg : Str → Option Value} {base : Heap} {C : Addr}
/-! _law_jug -/
theorem sc_jug : FnScope ["_law_script", "_law_k", "_law_cell"] ["_law_script", "_law_k"] (defScope s_jug) := ⟨rfl, rfl, rfl, by decide +kernel, rfl, by decide +kernel, by decide +kernel⟩
def sp_jug (K : PySem.W.Frag) : Sp := fun vs H Q _ => ∃ (a : Addr) (ns : List Int) (i : Nat), vs = [.ref a, .int (i : Nat)] ∧ SqL K H a (ns.map V.int) ∧ i ≤ 100 ∧ ∀ p x y z, H p = none → JAt (upd H p (dk x y z)) p 900000 → Q (.ref p) (upd H p (dk x y z))
theorem ok_jug (ml : mg "len" = none) (mm : mg "max" = none) : ∀ f fd, Fun K "_law_jug" "_law_jug" s_jug f fd → FnOk P w K mg base CX0 1 f fd ["_law_script", "_law_k"] (sp_jug K) := by
  refine ok_of sc_jug (fun vs H Q E h => by obtain ⟨_, _, _, rfl, _⟩ := h; rfl) (fun f cdv A outer s H vs Q E hr h => ?_)
  obtain ⟨a, ns, i, rfl, hL, hi, k⟩ := h
  have fin : ∀ c : Int, WSs (cxOf CX0 P w K mg base ["_law_script", "_law_k", "_law_cell"] "_law_jug" (defScope s_jug) f cdv A outer s H E).nox ((defBody s_jug).drop 1) { nx := fun _ H' => Q .non H', rt := Q } [some (.ref a), some (.int (i : Nat)), some (.int c)] H := by
    intro c
    refine s_one (s_ret (e_lst (a_cons (h := e_blt (call_max2 rfl) mm (by decide +kernel) (a_cons (h := e_int (a_cons (h := e_sub (h := ?_)))))))))
    walk_at "E"
    refine e_pow (h := ?_)
    walk_at "E"
    refine ⟨_, _, rfl, rfl, ⟨by decide, by decide, by decide⟩, ?_⟩
    walk_at "ii"
    walk_at "E"
    refine ⟨_, _, rfl, ?_⟩
    refine a_cons (h := e_add (h := e_add (h := e_bin op_mul (h := e_mod (h := ?_)))))
    walk_at "E"
    refine e_add (h := e_pow (h := ?_))
    walk_at "E"
    refine ⟨_, _, rfl, rfl, ⟨by decide, by decide, by decide⟩, ?_⟩
    walk_at "E"
    walk_at "ii"
    refine ⟨_, _, rfl, rfl, by decide, ?_⟩
    walk_at "E"
    refine ⟨_, _, rfl, rfl, .inr (by decide), ?_⟩
    refine e_bin op_mul (h := ?_)
    walk_at "E"
    refine ⟨_, _, rfl, rfl, .inl (by decide), ?_⟩
    walk_at "ii"
    walk_at "E"
    walk_at "ii"
    walk_at "E"
    refine ⟨by show 3 ≤ sizeLine; decide, fun p hp => k p _ _ _ hp ⟨_, _, _, upd_same, ?_, by decide, by decide⟩⟩
    have e1 : (10 : Int) ^ (39 : Int).toNat + 3 = 1000000000000000000000000000000000000003 := by decide
    rw [e1]
    have e2 : (2 : Nat) ^ 150 = 1427247692705959881058285969449495136382746624 := by decide
    rw [e2]
    have h1 := Int.emod_nonneg c (b := 1000000000000000000000000000000000000003) (by decide)
    have h2 := Int.emod_lt_of_pos c (b := 1000000000000000000000000000000000000003) (by decide)
    omega
  refine s_cons (s_set 2 sc_jug.nd (h := e_if (t_cmp op_lt (h := ?_))))
  walk_at "E"
  refine e_blt call_len_seq ml PySem.boot_len ?_
  walk_at "E"
  refine ⟨_, _, rfl, .inl hL, _, _, rfl, rfl, _, rfl, ifd (fun h => ?_) fun _ => ?_⟩
  · rw [List.length_map] at h
    refine e_ixL (h := ?_)
    walk_at "E"
    have e : ns[i]? = some (ns[i]'(by omega)) := List.getElem?_eq_getElem (by omega)
    exact ⟨_, _, _, _, rfl, rfl, hL, at_of rfl (by rw [List.getElem?_map, e]; rfl), fin _⟩
  · walk_at "E"
    exact fin _
/-! _law_pour -/
theorem sc_pour : FnScope ["_law_jug_here", "_law_many", "_law_found", "_law_mixed"] ["_law_jug_here", "_law_many"] (defScope s_pour) := ⟨rfl, rfl, rfl, by decide +kernel, rfl, by decide +kernel, by decide +kernel⟩
def sp_pour : Sp := fun vs H Q _ => ∃ (d : Addr) (m : Int) (n : Nat), vs = [.ref d, .int m] ∧ JAt H d (n + 1) ∧ 0 < m ∧ m.natAbs < 2 ^ 250 ∧ ∀ r x y z, 0 ≤ r → r < m → JAt (upd H d (dk x y z)) d n → Q (.int r) (upd H d (dk x y z))
theorem ok_pour (mi : mg "int" = none) : ∀ f fd, Fun K "_law_pour" "_law_pour" s_pour f fd → FnOk P w K mg base CX0 1 f fd ["_law_jug_here", "_law_many"] sp_pour := by
  refine ok_of sc_pour (fun vs H Q E h => by obtain ⟨_, _, _, rfl, _⟩ := h; rfl) (fun f cdv A outer s H vs Q E hr h => ?_)
  obtain ⟨d, m, n, rfl, hj, hm, hm2, k⟩ := h
  obtain ⟨x, y, z, hd, hy, hz0, hz⟩ := hj.ex
  have g0 : ∀ {H' : Hp} {x y z : Int} (h : H' d = some (dk x y z)), SqL K H' d [.int x, .int y, .int z] := fun h => SqL.of h
  have cd : CDivW x m := wide_div hm hm2 (by decide) (by decide)
  refine s_cons (s_if (t_cmp op_gt (h := e_ixL (h := ?_))))
  walk_at "E"
  refine ⟨_, _, _, _, rfl, rfl, g0 hd, rfl, ?_⟩
  walk_at "E"
  refine ⟨_, _, rfl, rfl, _, rfl, ifd (fun h => ?_) fun _ => s_nil ?_⟩
  · refine s_cons (s_set 2 sc_pour.nd (h := e_mod (h := e_ty call_int1 mi (by decide +kernel) (a_cons (h := e_ixL (h := ?_))))))
    walk_at "E"
    refine ⟨_, _, _, _, rfl, rfl, g0 hd, rfl, ?_⟩
    walk_at "E"
    refine .inl ⟨_, rfl, ?_⟩
    walk_at "E"
    refine ⟨_, _, rfl, rfl, hm, ?_⟩
    refine s_cons (s_sub (h := e_fdiv (h := e_ixL (h := ?_))))
    walk_at "E"
    refine ⟨_, _, _, _, rfl, rfl, g0 hd, rfl, ?_⟩
    walk_at "E"
    refine ⟨_, _, rfl, rfl, cd, ?_⟩
    walk_at "E"
    refine ⟨_, _, _, 0, rfl, rfl, hd, rfl, ?_⟩
    refine s_one (s_ret ?_)
    walk_at "E"
    exact k _ (x / m) y z (Int.emod_nonneg _ (by omega)) (Int.emod_lt_of_pos _ hm) ⟨_, _, _, upd_same, hy, hz0, by omega⟩
  · refine s_cons (s_sub (h := e_add (h := e_ixL (h := ?_))))
    walk_at "E"
    refine ⟨_, _, _, _, rfl, rfl, g0 hd, rfl, ?_⟩
    walk_at "E"
    walk_at "ii"
    walk_at "E"
    refine ⟨_, _, _, 2, rfl, rfl, hd, rfl, ?_⟩
    have h2 : (upd H d (.lst ([V.int x, .int y, .int z].set 2 (.int (z + 1))))) d = some (dk x y (z + 1)) := upd_same
    have e2 : (2 : Nat) ^ 150 = 1427247692705959881058285969449495136382746624 := by decide
    rw [e2] at hy
    refine s_cons (s_set 3 sc_pour.nd (h := e_mod (h := e_ty call_int1 mi (by decide +kernel) (a_cons (h := e_powW (h := e_add (h := e_ixL (h := ?_))))))))
    walk_at "E"
    refine ⟨_, _, _, _, rfl, rfl, g0 h2, rfl, ?_⟩
    refine e_bin op_mul (h := ?_)
    walk_at "E"
    refine e_ixL (h := ?_)
    walk_at "E"
    refine ⟨_, _, _, _, rfl, rfl, g0 h2, rfl, ?_⟩
    refine ⟨_, _, rfl, rfl, .inl (by decide), ?_⟩
    walk_at "ii"
    walk_at "E"
    refine ⟨_, _, rfl, rfl, powW_of (n := 160) ?_ (by decide) (by decide), ?_⟩
    · have e3 : (2 : Nat) ^ 160 = 1461501637330902918203684832716283019655932542976 := by decide
      rw [e3]
      omega
    walk_at "E"
    refine .inl ⟨_, rfl, ?_⟩
    refine e_add (h := e_pow (h := ?_))
    walk_at "E"
    refine ⟨_, _, rfl, rfl, ⟨by decide, by decide, by decide⟩, ?_⟩
    walk_at "E"
    walk_at "ii"
    refine ⟨_, _, rfl, rfl, by decide, ?_⟩
    generalize hq : (y + 24036583 * (z + 1)) ^ (3 : Int).toNat % (10 ^ (42 : Int).toNat + 63) = q1
    have b1 : q1.natAbs < 2 ^ 145 := by
      have a1 := Int.emod_nonneg ((y + 24036583 * (z + 1)) ^ (3 : Int).toNat) (b := 10 ^ (42 : Int).toNat + 63) (by decide)
      have a2 := Int.emod_lt_of_pos ((y + 24036583 * (z + 1)) ^ (3 : Int).toNat) (b := 10 ^ (42 : Int).toNat + 63) (by decide)
      rw [hq] at a1 a2
      have e4 : (10 : Int) ^ (42 : Int).toNat + 63 = 1000000000000000000000000000000000000000063 := by decide
      rw [e4] at a2
      have e5 : (2 : Nat) ^ 145 = 44601490397061246283071436545296723011960832 := by decide
      rw [e5]
      omega
    refine s_cons (s_set 3 sc_pour.nd (h := e_mod (h := e_ty call_int1 mi (by decide +kernel) (a_cons (h := e_powW (h := e_add (h := ?_)))))))
    walk_at "E"
    refine e_bin op_mul (h := ?_)
    walk_at "E"
    refine e_ixL (h := ?_)
    walk_at "E"
    refine ⟨_, _, _, _, rfl, rfl, g0 h2, rfl, ?_⟩
    refine ⟨_, _, rfl, rfl, .inl (by decide), ?_⟩
    walk_at "ii"
    walk_at "E"
    refine ⟨_, _, rfl, rfl, powW_of (n := 160) ?_ (by decide) (by decide), ?_⟩
    · have e3 : (2 : Nat) ^ 160 = 1461501637330902918203684832716283019655932542976 := by decide
      have e5 : (2 : Nat) ^ 145 = 44601490397061246283071436545296723011960832 := by decide
      rw [e5] at b1
      rw [e3]
      omega
    walk_at "E"
    refine .inl ⟨_, rfl, ?_⟩
    refine e_add (h := e_pow (h := ?_))
    walk_at "E"
    refine ⟨_, _, rfl, rfl, ⟨by decide, by decide, by decide⟩, ?_⟩
    walk_at "E"
    walk_at "ii"
    refine ⟨_, _, rfl, rfl, by decide, ?_⟩
    refine s_one (s_ret (e_mod (h := e_fdiv (h := ?_))))
    walk_at "E"
    refine ⟨_, _, rfl, rfl, wide_div (b := 30) (by decide) (by decide) (by decide) (by decide), ?_⟩
    walk_at "E"
    refine ⟨_, _, rfl, rfl, hm, ?_⟩
    exact k _ x y (z + 1) (Int.emod_nonneg _ (by omega)) (Int.emod_lt_of_pos _ hm) ⟨_, _, _, upd_same, by rw [e2]; exact hy, by omega, by omega⟩
theorem pour_k {B H : Hp} {d : Addr} {m : Int} {n : Nat} {Q : VK} (k : Jk B H d (n + 1)) (hm : 0 < m) (hb : m.natAbs < 2 ^ 250) (q : ∀ r H', 0 ≤ r → r < m → Gr (Md d) B H B H' → Jk B H' d n → Q (.int r) H') : sp_pour [.ref d, .int m] H Q E0 :=
  ⟨d, m, n, rfl, k.at_, hm, hb, fun r x y z h0 h1 j =>
    have g := (Gr.refl (M := Md d) k.k).deck (x := x) (y := y) (z := z) k.b
    q r _ h0 h1 g (k.go g j)⟩
/-! _law_turns -/
abbrev N_turns : List Str := ["_law_jug_here", "_law_most", "_law_size", "_law_many", "_law_turn"]
theorem sc_turns : FnScope N_turns ["_law_jug_here", "_law_most", "_law_size"] (defScope s_turns) := ⟨rfl, rfl, rfl, by decide +kernel, rfl, by decide +kernel, by decide +kernel⟩
def sp_turns (K : PySem.W.Frag) : Sp := fun vs H Q _ => ∃ (B : Hp) (d : Addr) (mo si : Int) (n : Nat), vs = [.ref d, .int mo, .int si] ∧ Jk B H d (n + 100) ∧ 0 ≤ mo ∧ mo ≤ 50 ∧ 0 ≤ si ∧ si ≤ 1000 ∧
  ∀ v ts B' H', Gr (Md d) B H B' H' → Jk B' H' d n → Dt K B' v (ts : List Int) → ts.length ≤ 60 → (∀ t ∈ ts, -si ≤ t ∧ t ≤ si) → Q v H'
theorem ok_turns (mr : mg "range" = none) (e1 : Cal P w K mg base "_law_pour" 1 ["_law_jug_here", "_law_many"] sp_pour) : ∀ f fd, Fun K "_law_turns" "_law_turns" s_turns f fd → FnOk P w K mg base CX0 2 f fd ["_law_jug_here", "_law_most", "_law_size"] (sp_turns K) := by
  refine ok_of sc_turns (fun vs H Q E h => by obtain ⟨_, _, _, _, _, rfl, _⟩ := h; rfl) (fun f cdv A outer s H vs Q E hr h => ?_)
  obtain ⟨B, d, mo, si, n, rfl, j0, hm0, hm1, hs0, hs1, k⟩ := h
  have fin : ∀ (c : Nat) (H1 : Hp), c ≤ 60 → Gr (Md d) B H B H1 → Jk B H1 d (n + 2 * 49 - 38) → WSs (cxOf CX0 P w K mg base N_turns "_law_turns" (defScope s_turns) f cdv A outer s H E).nox ((defBody s_turns).drop 1) { nx := fun _ H' => Q .non H', rt := Q } [some (.ref d), some (.int mo), some (.int si), some (.int c), none] H1 := by
    intro c H1 hc g1 j1
    refine s_one (s_ret (e_lc [("_law_turn", 4)] sc_turns.nd (ok := blkOk_by (N := N_turns) (sc := defScope s_turns) (by decide +kernel)) (h := i_rng1 mr (h := ?_))))
    walk_at "E"
    refine ⟨_, rfl, by omega, by omega, fun D hD => lcPour 1 (m := n) walk_range (fun z => -si ≤ z ∧ z ≤ si) (j1.le (by omega)) hD (Nat.lt_of_le_of_lt (by omega : (c : Int).toNat ≤ 60) (by decide)) (fun _ _ _ _ _ => trivial) ?_ ?_⟩
    · rintro i q x B' H' H'' hi g j' ⟨rfl, rfl⟩ KT KF kt s0 H0 C0 cl fp
      refine g_name 4 sc_turns.nd (q := ⟨rfl, ?_⟩)
      intro s0 H0 C0 cl fp
      refine ts_nil (ift rfl ?_)
      intro s0 H0 C0 cl fp
      refine e_sub (h := e_call e1 (hr.mono (by decide)) (h := ?_))
      walk_at "E"
      refine e_add (h := e_bin op_mul (h := ?_))
      walk_at "E"
      refine ⟨_, _, rfl, rfl, .inl (by decide), ?_⟩
      walk_at "E"
      walk_at "ii"
      walk_at "E"
      refine pour_k j' (by omega) (sq_int (n := 3000) (by omega) _ (by decide)) fun r H4 r0 r1 g4 j4 => ?_
      walk_at "E"
      walk_at "ii"
      exact kt _ B' H4 g4 j4 (by omega)
    · intro B2 H2 ts g2 j2 b2 eD hl hp
      have gA : Gr (Md d) B H (upd B2 D (.lst (ts.map V.int))) H2 := (g1.trans g2).learn (g1.free hD) b2 eD
      exact k _ ts _ _ gA (j0.go gA j2.at_) (dtL (SqL.of upd_same) das_ints) (by omega) hp
  refine s_cons (s_set 3 sc_turns.nd (h := e_if (t_cmp op_eq (h := e_call e1 (hr.mono (by decide)) (h := ?_)))))
  walk_at "E"
  refine pour_k (n := n + 99) j0 (by decide) (by decide) fun r H1 r0 r1 g1 j1 => ?_
  walk_at "E"
  refine ⟨rfl, _, rfl, ifd (fun h => ?_) fun h => ?_⟩
  · walk_at "E"
    exact fin 60 H1 (by omega) g1 (j1.le (by omega))
  · refine e_call e1 (hr.mono (by decide)) (h := ?_)
    walk_at "E"
    refine e_add (h := ?_)
    walk_at "E"
    walk_at "ii"
    walk_at "E"
    refine pour_k (n := n + 98) j1 (by omega) (sq_int (n := 3000) (by omega) _ (by decide)) fun r2 H2 r3 r4 g2 j2 => ?_
    obtain ⟨c, rfl⟩ : ∃ c : Nat, r2 = (c : Int) := ⟨r2.toNat, by omega⟩
    exact fin c H2 (by omega) (g1.trans g2) (j2.le (by omega))
end
end K34
namespace K34
open PySem L2 Evl Lw
/-! ### tick by tick -/
def InR (r p : I2) : Prop := 0 ≤ p.1 ∧ p.1 ≤ r.1 ∧ 0 ≤ p.2 ∧ p.2 ≤ r.2
theorem clip_in {r x : Int} (h : 0 ≤ r) : 0 ≤ clipF r x ∧ clipF r x ≤ r := by unfold clipF; omega
theorem step_in {r : I2} {s : I2 × I2} {t : Int} (h1 : 0 ≤ r.1) (h2 : 0 ≤ r.2) : InR r (tlStep r s t).1 := by
  obtain ⟨a, b⟩ := clip_in (x := s.1.1 + t) h1
  obtain ⟨c, d⟩ := clip_in (x := s.1.2 + s.1.1 + t - clipF r.1 (s.1.1 + t)) h2
  exact ⟨a, b, c, d⟩
theorem tlF_in {r s : I2} {ts : List Int} (h : InR r s) : InR r (tlF r s ts).1 := by
  have h1 : 0 ≤ r.1 := Int.le_trans h.1 h.2.1
  have h2 : 0 ≤ r.2 := Int.le_trans h.2.2.1 h.2.2.2
  unfold tlF
  have key : ∀ (ts : List Int) (q : I2 × I2), InR r q.1 → InR r (ts.foldl (tlStep r) q).1 := by
    intro ts
    induction ts with
    | nil => exact fun q hq => hq
    | cons t ts ih => exact fun q hq => ih _ (step_in h1 h2)
  exact key ts _ h
theorem step0 {r : I2} {s : I2 × I2} (h : InR r s.1) : tlStep r s 0 = s := by
  obtain ⟨⟨w, p⟩, ⟨d, u⟩⟩ := s
  obtain ⟨r1, r2⟩ := r
  obtain ⟨a, b, c, e⟩ := h
  simp only at a b c e
  unfold tlStep clipF
  simp only [Prod.mk.injEq]
  omega
theorem tick_p {r : I2} {s : I2 × I2} {k : Int} (h : InR r s.1) (hk : 0 ≤ k) (st : I2 × I2) (e : st = tlStep r s k) :
    (st.1.1 < r.1 → ((st.1.1 + 1, st.1.2), st.2) = tlStep r s (k + 1)) ∧ (¬ st.1.1 < r.1 → st.1.2 < r.2 → ((st.1.1, st.1.2 + 1), st.2) = tlStep r s (k + 1)) ∧ (¬ st.1.1 < r.1 → ¬ st.1.2 < r.2 → (st.1, (st.2.1 + 1, st.2.2)) = tlStep r s (k + 1)) := by
  subst e
  obtain ⟨⟨w, p⟩, ⟨d, u⟩⟩ := s
  obtain ⟨r1, r2⟩ := r
  obtain ⟨a, b, c, e⟩ := h
  simp only at a b c e
  unfold tlStep clipF
  simp only [Prod.mk.injEq]
  refine ⟨fun h1 => ?_, fun h1 h2 => ?_, fun h1 h2 => ?_⟩ <;> refine ⟨⟨?_, ?_⟩, ?_, ?_⟩ <;> omega
theorem tick_n {r : I2} {s : I2 × I2} {k : Int} (h : InR r s.1) (hk : 0 ≤ k) (st : I2 × I2) (e : st = tlStep r s (-k)) :
    (0 < st.1.1 → ((st.1.1 - 1, st.1.2), st.2) = tlStep r s (-(k + 1))) ∧ (¬ 0 < st.1.1 → 0 < st.1.2 → ((st.1.1, st.1.2 - 1), st.2) = tlStep r s (-(k + 1))) ∧ (¬ 0 < st.1.1 → ¬ 0 < st.1.2 → (st.1, (st.2.1, st.2.2 + 1)) = tlStep r s (-(k + 1))) := by
  subst e
  obtain ⟨⟨w, p⟩, ⟨d, u⟩⟩ := s
  obtain ⟨r1, r2⟩ := r
  obtain ⟨a, b, c, e⟩ := h
  simp only at a b c e
  unfold tlStep clipF
  simp only [Prod.mk.injEq]
  refine ⟨fun h1 => ?_, fun h1 h2 => ?_, fun h1 h2 => ?_⟩ <;> refine ⟨⟨?_, ?_⟩, ?_, ?_⟩ <;> omega
section
variable {P : Program} {w : World} {K : PySem.W.Frag} {mg : Str → Option Value} {base : Heap} {C : Addr}
abbrev N_ti : List Str := ["_law_rooms", "_law_scrolls", "_law_turns_here", "_law_window", "_law_page", "_law_down", "_law_up", "_law_turn", "_law_tick"]
theorem sc_ti : FnScope N_ti ["_law_rooms", "_law_scrolls", "_law_turns_here"] (defScope s_ticks) := ⟨rfl, rfl, rfl, by decide +kernel, rfl, by decide +kernel, by decide +kernel⟩
def sp_ti (K : PySem.W.Frag) : Sp := fun vs H Q _ => ∃ (B : Hp) (v v2 v3 : V) (r s : I2) (ts : List Int), vs = [v, v2, v3] ∧ Ex B H ∧ Dt K B v r ∧ Dt K B v2 s ∧ Dt K B v3 ts ∧ InR r s ∧ (∀ t ∈ ts, -1000 ≤ t ∧ t ≤ 1000) ∧ RetD K B H Q (tlF r s ts)
theorem ok_ti (mr : mg "range" = none) (ma : mg "abs" = none) : ∀ f fd, Fun K "_law_ticks" "_law_ticks" s_ticks f fd → FnOk P w K mg base CX0 1 f fd ["_law_rooms", "_law_scrolls", "_law_turns_here"] (sp_ti K) := by
  refine ok_of sc_ti (fun vs H Q E h => by obtain ⟨_, _, _, _, _, _, _, rfl, _⟩ := h; rfl) (fun f cdv A outer s0 H vs Q E hr h => ?_)
  obtain ⟨B, v, v2, v3, r, s, ts, rfl, kB, hd, hd2, hd3, hin, hts, k⟩ := h
  obtain ⟨a, rfl, hT⟩ := dt_i2 hd
  obtain ⟨b, rfl, hT2⟩ := dt_i2 hd2
  obtain ⟨c, cvs, rfl, hL, hA⟩ := dt_list hd3
  have ei := hA.ints
  subst ei
  have hT' := ex_t kB hT
  refine s_cons (s_asg (h := ?_))
  walk_at "E"
  refine g_tup (ex_t kB hT2) rfl (h := gs_cons (h := g_name 3 sc_ti.nd (q := gs_cons (h := g_name 4 sc_ti.nd (q := gs_nil ?_)))))
  refine s_cons (s_asg (h := e_tup ?_))
  walk_at "E"
  refine ⟨by show 2 ≤ sizeLine; decide, fun p0 hp0 => ?_⟩
  have g0 := (Gr.refl (M := M0) kB).own (o := .tup [.int 0, .int 0]) hp0
  refine g_tup (SqT.of upd_same) rfl (h := gs_cons (h := g_name 5 sc_ti.nd (q := gs_cons (h := g_name 6 sc_ti.nd (q := gs_nil ?_)))))
  show WSs _ _ _ _ (upd H p0 (.tup [.int 0, .int 0]))
  generalize upd H p0 (.tup [.int 0, .int 0]) = H0 at *
  have hT' := ex_t g0.k hT
  refine s_cons (s_for (h := i_list ?_))
  walk_at "E"
  refine ⟨_, rfl, ⟨_, ex_l g0.k hL⟩, for_it walk_list (fun i σ H' => H' = H0 ∧ ∃ (st : I2 × I2) (u1 u2 : Option V), st = tlF r s (ts.take i) ∧ σ = [some (.ref a), some (.ref b), some (.ref c), some (.int st.1.1), some (.int st.1.2), some (.int st.2.1), some (.int st.2.2), u1, u2])
    ⟨rfl, tlF r s (ts.take 0), none, none, rfl, rfl⟩ (fun i σ H' _ ⟨e, _⟩ => e ▸ ex_l g0.k hL) ?_ ?_⟩
  · rintro i x σ H' H'' hi ⟨rfl, st, u1, u2, est, rfl⟩ ⟨rfl, hx⟩
    rw [List.getElem?_map] at hx
    cases et : ts[i]? with
    | none => rw [et] at hx; cases hx
    | some t =>
      rw [et] at hx
      cases hx
      have nx := tl_next (r := r) (s := s) et
      rw [← est] at nx
      have ht := hts t (List.mem_of_getElem? et)
      have hst : InR r st.1 := est ▸ tlF_in hin
      refine g_name 7 sc_ti.nd (q := ?_)
      refine s_one (s_for (h := i_rng1 mr (h := e_blt call_abs ma (by decide +kernel) ?_)))
      walk_at "E"
      refine ⟨_, rfl, ?_⟩
      rw [py_abs]
      refine ⟨_, rfl, by omega, by omega, ?_⟩
      rw [show ((t.natAbs : Int)).toNat = t.natAbs from Int.toNat_natCast _]
      refine for_it walk_r0 (fun j σ H2 => H2 = H'' ∧ ∃ (q : I2 × I2) (u2 : Option V), q = tlStep r st (if 0 < t then (j : Int) else -(j : Int)) ∧ σ = [some (.ref a), some (.ref b), some (.ref c), some (.int q.1.1), some (.int q.1.2), some (.int q.2.1), some (.int q.2.2), some (.int t), u2])
        ⟨rfl, st, u2, ?_, rfl⟩ (fun _ _ _ _ _ => trivial) ?_ ?_
      · have e0 : (if 0 < t then ((0 : Nat) : Int) else -((0 : Nat) : Int)) = 0 := by split <;> rfl
        rw [e0, step0 hst]
      · rintro j x σ H2 H3 hj ⟨rfl, q, u2, eq, rfl⟩ ⟨rfl, rfl⟩
        refine g_name 8 sc_ti.nd (q := ?_)
        by_cases hp : 0 < t
        · rw [if_pos hp] at eq
          obtain ⟨f1, f2, f3⟩ := tick_p hst (by omega) q eq
          have nxt : ∀ {q' : I2 × I2}, q' = tlStep r st ((j : Int) + 1) → q' = tlStep r st (if 0 < t then ((j + 1 : Nat) : Int) else -((j + 1 : Nat) : Int)) := fun h => by rw [if_pos hp, h]; rfl
          refine s_one (s_if (t_wb (b_and (t_cmp op_gt (h := ?_)))))
          walk_at "E"
          refine ⟨_, _, rfl, rfl, _, rfl, ift (decide_eq_true hp) ?_⟩
          refine b_and1 (t_cmp op_lt (h := ?_))
          walk_at "E"
          refine e_ixT (h := ?_)
          walk_at "E"
          refine ⟨_, _, _, _, rfl, rfl, hT', rfl, ?_⟩
          refine ⟨_, _, rfl, rfl, _, rfl, ifd (fun c1 => ?_) fun c1 => ?_⟩
          · refine s_one (s_set 3 sc_ti.nd (h := e_add (h := ?_)))
            walk_at "E"
            refine ⟨_, _, rfl, rfl, ?_⟩
            exact ⟨rfl, _, _, nxt (f1 c1), rfl⟩
          refine s_one (s_if (t_wb (b_and (t_cmp op_gt (h := ?_)))))
          walk_at "E"
          refine ⟨_, _, rfl, rfl, _, rfl, ift (decide_eq_true hp) ?_⟩
          refine b_and1 (t_cmp op_lt (h := ?_))
          walk_at "E"
          refine e_ixT (h := ?_)
          walk_at "E"
          refine ⟨_, _, _, _, rfl, rfl, hT', rfl, ?_⟩
          refine ⟨_, _, rfl, rfl, _, rfl, ifd (fun c2 => ?_) fun c2 => ?_⟩
          · refine s_one (s_set 4 sc_ti.nd (h := e_add (h := ?_)))
            walk_at "E"
            refine ⟨_, _, rfl, rfl, ?_⟩
            exact ⟨rfl, _, _, nxt (f2 c1 c2), rfl⟩
          refine s_one (s_if (t_cmp op_gt (h := ?_)))
          walk_at "E"
          refine ⟨_, _, rfl, rfl, _, rfl, ift (decide_eq_true hp) ?_⟩
          refine s_one (s_set 5 sc_ti.nd (h := e_add (h := ?_)))
          walk_at "E"
          refine ⟨_, _, rfl, rfl, ?_⟩
          exact ⟨rfl, _, _, nxt (f3 c1 c2), rfl⟩
        · rw [if_neg hp] at eq
          obtain ⟨f1, f2, f3⟩ := tick_n hst (by omega) q eq
          have nxt : ∀ {q' : I2 × I2}, q' = tlStep r st (-((j : Int) + 1)) → q' = tlStep r st (if 0 < t then ((j + 1 : Nat) : Int) else -((j + 1 : Nat) : Int)) := fun h => by rw [if_neg hp, h]; rfl
          refine s_one (s_if (t_wb (b_and (t_cmp op_gt (h := ?_)))))
          walk_at "E"
          refine ⟨_, _, rfl, rfl, _, rfl, iff_ (decide_eq_false hp) (iff_ rfl ?_)⟩
          refine s_one (s_if (t_wb (b_and (t_cmp op_gt (h := ?_)))))
          walk_at "E"
          refine ⟨_, _, rfl, rfl, _, rfl, iff_ (decide_eq_false hp) (iff_ rfl ?_)⟩
          refine s_one (s_if (t_cmp op_gt (h := ?_)))
          walk_at "E"
          refine ⟨_, _, rfl, rfl, _, rfl, iff_ (decide_eq_false hp) ?_⟩
          refine s_one (s_if (t_cmp op_gt (h := ?_)))
          walk_at "E"
          refine ⟨_, _, rfl, rfl, _, rfl, ifd (fun c1 => ?_) fun c1 => ?_⟩
          · refine s_one (s_set 3 sc_ti.nd (h := e_sub (h := ?_)))
            walk_at "E"
            refine ⟨_, _, rfl, rfl, ?_⟩
            exact ⟨rfl, _, _, nxt (f1 c1), rfl⟩
          refine s_one (s_if (t_cmp op_gt (h := ?_)))
          walk_at "E"
          refine ⟨_, _, rfl, rfl, _, rfl, ifd (fun c2 => ?_) fun c2 => ?_⟩
          · refine s_one (s_set 4 sc_ti.nd (h := e_sub (h := ?_)))
            walk_at "E"
            refine ⟨_, _, rfl, rfl, ?_⟩
            exact ⟨rfl, _, _, nxt (f2 c1 c2), rfl⟩
          refine s_one (s_set 6 sc_ti.nd (h := e_add (h := ?_)))
          walk_at "E"
          refine ⟨_, _, rfl, rfl, ?_⟩
          exact ⟨rfl, _, _, nxt (f3 c1 c2), rfl⟩
      · rintro σ H2 ⟨rfl, q, u2, eq, rfl⟩
        have e1 : (if 0 < t then (t.natAbs : Int) else -(t.natAbs : Int)) = t := by split <;> omega
        rw [e1] at eq
        exact ⟨rfl, q, _, _, eq.trans nx.symm, rfl⟩
  · rintro σ H' ⟨rfl, st, u1, u2, est, rfl⟩
    have e2 : st = tlF r s ts := by
      rw [est, List.length_map, List.take_length]
    refine s_one (s_ret (e_tup (a_cons (h := e_tup ?_))))
    walk_at "E"
    refine ⟨by show 2 ≤ sizeLine; decide, fun p hp => ?_⟩
    refine a_cons (h := e_tup ?_)
    walk_at "E"
    refine ⟨by show 2 ≤ sizeLine; decide, fun q hq => ?_⟩
    walk_at "E"
    refine ⟨by show 2 ≤ sizeLine; decide, fun z hz => ?_⟩
    have g1 := g0.new (o := .tup [.int st.1.1, .int st.1.2]) hp
    have g2 := g1.new (o := .tup [.int st.2.1, .int st.2.2]) hq
    have g3 := g2.new (o := .tup [.ref p, .ref q]) hz
    refine k _ _ _ g3 ?_
    have d1 : Dt K (upd B p (.tup [.int st.1.1, .int st.1.2])) (.ref p) st.1 := dtI2 (SqT.of upd_same)
    have n1 := none_of_ex g1.k hq
    have n2 := none_of_ex g2.k hz
    have d2 : Dt K (upd (upd B p (.tup [.int st.1.1, .int st.1.2])) q (.tup [.int st.2.1, .int st.2.2])) (.ref q) st.2 := dtI2 (SqT.of upd_same)
    rw [← e2]
    exact dtP (SqT.of upd_same) ((d1.mono (Ex.new n1)).mono (Ex.new n2)) (d2.mono (Ex.new n2))

/-! _law_due -/
theorem sc_due : FnScope ["_law_rooms", "_law_scrolls", "_law_number", "_law_size", "_law_scroll"] ["_law_rooms", "_law_scrolls"] (defScope s_due) := ⟨rfl, rfl, rfl, by decide +kernel, rfl, by decide +kernel, by decide +kernel⟩
def sp_due (K : PySem.W.Frag) : Sp := fun vs H Q _ => ∃ (B : Hp) (v v2 : V) (r s : I2), vs = [v, v2] ∧ Ex B H ∧ Dt K B v r ∧ Dt K B v2 s ∧ RetD K B H Q (dueF r s)
theorem ok_due (mz : mg "zip" = none) : ∀ f fd, Fun K "_law_due" "_law_due" s_due f fd → FnOk P w K mg base CX0 1 f fd ["_law_rooms", "_law_scrolls"] (sp_due K) := by
  refine ok_of sc_due (fun vs H Q E h => by obtain ⟨_, _, _, _, _, rfl, _⟩ := h; rfl) (fun f cdv A outer s0 H vs Q E hr h => ?_)
  obtain ⟨B, v, v2, r, s, rfl, kB, hd, hd2, k⟩ := h
  obtain ⟨a, rfl, hT⟩ := dt_i2 hd
  obtain ⟨b, rfl, hT2⟩ := dt_i2 hd2
  refine s_cons (s_for (h := i_tup ?_))
  walk_at "E"
  refine ⟨_, rfl, ⟨_, ex_t kB hT⟩, for_it walk_tup (fun i σ H' => H' = H ∧ (∃ u, σ = [some (.ref a), some (.ref b), u, none, none]) ∧ (1 ≤ i → 0 ≤ r.1) ∧ (2 ≤ i → 0 ≤ r.2)) ⟨rfl, ⟨none, rfl⟩, fun z => absurd z (by decide), fun z => absurd z (by decide)⟩ (fun i σ H' _ ⟨e, _⟩ => e ▸ ex_t kB hT) ?_ ?_⟩
  · rintro i x σ H' H'' hi ⟨rfl, ⟨u, rfl⟩, g1, g2⟩ ⟨rfl, hx⟩
    match i, hi, hx, g1, g2 with
    | 0, _, hx, _, _ =>
      cases hx
      refine g_name 2 sc_due.nd (q := ?_)
      refine s_one (s_if (t_cmp op_lt (h := ?_)))
      walk_at "E"
      refine ⟨_, _, rfl, rfl, _, rfl, ifd (fun c => ?_) fun c => s_nil ⟨rfl, ⟨_, rfl⟩, fun _ => by omega, fun y => absurd y (by decide)⟩⟩
      refine s_one (s_ret ?_)
      walk_at "E"
      refine k _ _ _ (Gr.refl kB) ?_
      unfold dueF
      rw [if_pos c]
      exact dtS _
    | 1, _, hx, g1, _ =>
      cases hx
      have g1 := g1 (by decide)
      refine g_name 2 sc_due.nd (q := ?_)
      refine s_one (s_if (t_cmp op_lt (h := ?_)))
      walk_at "E"
      refine ⟨_, _, rfl, rfl, _, rfl, ifd (fun c => ?_) fun c => s_nil ⟨rfl, ⟨_, rfl⟩, fun _ => g1, fun y => by omega⟩⟩
      refine s_one (s_ret ?_)
      walk_at "E"
      refine k _ _ _ (Gr.refl kB) ?_
      unfold dueF
      rw [if_neg (by omega), if_pos c]
      exact dtS _
  rintro σ H' ⟨rfl, ⟨u0, rfl⟩, g1, g2⟩
  have r1 := g1 (show 1 ≤ 2 by decide)
  have r2 := g2 (show 2 ≤ 2 by decide)
  refine s_cons (s_for (h := i_zipT mz (h := ?_)))
  walk_at "E"
  refine ⟨_, _, _, _, rfl, ex_t kB hT, ex_t kB hT2, for_it (walk_zipT (n := 2) rfl) (fun i σ H2 => Gr M0 B H' B H2 ∧ (∃ u u', σ = [some (.ref a), some (.ref b), u0, u, u']) ∧ (1 ≤ i → 0 ≤ s.1 ∧ s.1 ≤ r.1) ∧ (2 ≤ i → 0 ≤ s.2 ∧ s.2 ≤ r.2)) ⟨Gr.refl kB, ⟨none, none, rfl⟩, fun z => absurd z (by decide), fun z => absurd z (by decide)⟩
    (fun i σ H2 _ ⟨e, _⟩ => ⟨ex_t e.k hT, ex_t e.k hT2⟩) ?_ ?_⟩
  · rintro i x σ H1 H2 hi ⟨gr, ⟨u, u', rfl⟩, g1, g2⟩ ⟨Z, x, y, rfl, hZ, rfl, hx, hy⟩
    have gr1 : Gr M0 B H' B (upd H1 Z (.tup [x, y])) := gr.own hZ
    match i, hi, hx, hy, g1, g2 with
    | 0, _, hx, hy, _, _ =>
      cases hx
      cases hy
      refine g_tup (SqT.of upd_same) rfl (h := gs_cons (h := g_name 3 sc_due.nd (q := gs_cons (h := g_name 4 sc_due.nd (q := gs_nil ?_)))))
      have bad : (s.1 < 0 ∨ r.1 < s.1) → Q (.int s.1) (upd H1 Z (.tup [.int r.1, .int s.1])) := fun z => by
        refine k _ _ _ gr1 ?_
        unfold dueF
        rw [if_neg (by omega), if_neg (by omega), if_pos z]
        exact dtS _
      refine s_one (s_if (t_wb (b_or (t_cmp op_lt (h := ?_)))))
      walk_at "E"
      refine ⟨_, _, rfl, rfl, _, rfl, ifd (fun c => ift rfl ?_) fun c => ?_⟩
      · refine s_one (s_ret ?_)
        walk_at "E"
        exact bad (.inl c)
      refine b_or1 (t_cmp op_gt (h := ?_))
      walk_at "E"
      refine ⟨_, _, rfl, rfl, _, rfl, ifd (fun c2 => ?_) fun c2 => s_nil ⟨gr1, ⟨_, _, rfl⟩, fun _ => by omega, fun y => absurd y (by decide)⟩⟩
      refine s_one (s_ret ?_)
      walk_at "E"
      exact bad (.inr c2)
    | 1, _, hx, hy, g1, _ =>
      cases hx
      cases hy
      have g1 := g1 (by decide)
      refine g_tup (SqT.of upd_same) rfl (h := gs_cons (h := g_name 3 sc_due.nd (q := gs_cons (h := g_name 4 sc_due.nd (q := gs_nil ?_)))))
      have bad : (s.2 < 0 ∨ r.2 < s.2) → Q (.int s.2) (upd H1 Z (.tup [.int r.2, .int s.2])) := fun z => by
        refine k _ _ _ gr1 ?_
        unfold dueF
        rw [if_neg (by omega), if_neg (by omega), if_neg (by omega), if_pos z]
        exact dtS _
      refine s_one (s_if (t_wb (b_or (t_cmp op_lt (h := ?_)))))
      walk_at "E"
      refine ⟨_, _, rfl, rfl, _, rfl, ifd (fun c => ift rfl ?_) fun c => ?_⟩
      · refine s_one (s_ret ?_)
        walk_at "E"
        exact bad (.inl c)
      refine b_or1 (t_cmp op_gt (h := ?_))
      walk_at "E"
      refine ⟨_, _, rfl, rfl, _, rfl, ifd (fun c2 => ?_) fun c2 => s_nil ⟨gr1, ⟨_, _, rfl⟩, fun _ => g1, fun y => by omega⟩⟩
      refine s_one (s_ret ?_)
      walk_at "E"
      exact bad (.inr c2)
  · rintro σ H2 ⟨gr, ⟨u, u', rfl⟩, g1, g2⟩
    have g1 := g1 (by decide)
    have g2 := g2 (by decide)
    refine s_one (s_ret ?_)
    walk_at "E"
    refine k _ _ _ gr ?_
    unfold dueF
    rw [if_neg (by omega), if_neg (by omega), if_neg (by omega), if_neg (by omega)]
    exact dtN

/-! _law_refused -/
abbrev N_ref : List Str := ["_law_word", "_law_rooms", "_law_scrolls", "_law_turns_here", "e"]
theorem sc_ref : FnScope N_ref ["_law_word", "_law_rooms", "_law_scrolls", "_law_turns_here"] (defScope s_ref) := ⟨rfl, rfl, rfl, by decide +kernel, rfl, by decide +kernel, by decide +kernel⟩
def refF (wd : Int) (r s : I2) : Option Int := if wd = 0 ∨ wd = 1 then dueF r s else dueR r
def sp_ref (K : PySem.W.Frag) : Sp := fun vs H Q _ => ∃ (B : Hp) (wd : Int) (v v2 v3 : V) (r s : I2) (ts : List Int), vs = [.int wd, v, v2, v3] ∧ Ex B H ∧ Dt K B v r ∧ Dt K B v2 s ∧ Dt K B v3 ts ∧ RetD K B H Q (refF wd r s)
theorem ok_ref (T : ExC P w K mg base "InvalidNumber" C) (e1 : CalX P w K mg base "turned_by" 5 ["rooms", "scrolls", "turns"] (sp_tb K C)) (e2 : CalX P w K mg base "lost" 5 ["rooms", "scrolls", "turns"] (sp_lo K C)) (e3 : CalX P w K mg base "clipped" 5 ["rooms", "scrolls"] (sp_cl K C)) :
    ∀ f fd, Fun K "_law_refused" "_law_refused" s_ref f fd → FnOk P w K mg base CX0 6 f fd ["_law_word", "_law_rooms", "_law_scrolls", "_law_turns_here"] (sp_ref K) := by
  refine ok_of sc_ref (fun vs H Q E h => by obtain ⟨_, _, _, _, _, _, _, _, rfl, _⟩ := h; rfl) (fun f cdv A outer s0 H vs Q E hr h => ?_)
  obtain ⟨B, wd, v, v2, v3, r, s, ts, rfl, kB, hd, hd2, hd3, k⟩ := h
  refine s_cons (s_tryAs 4 sc_ref.nd T.gC (h := fun W pn xe tk po hW => ?_))
  have rai : ∀ n, refF wd r s = some n → Rai C H (fun cls d H' => W cls d [some (.int wd), some v, some v2, some v3, none] H') n := by
    intro n hn d H' ex hd' hx
    refine hW C d _ H' T.te fun a oe pn hz hf ha => ?_
    refine s_one (s_ret (e_xf T.xf T.nv hz hf (h := ?_)))
    walk_at "E"
    refine ⟨rfl, rfl, d, _, _, rfl, hx, rfl, ?_⟩
    refine k _ _ _ (gr_ex kB ex) ?_
    rw [hn]
    exact dtS _
  have fine : refF wd r s = none → ∀ H', Gr M0 B H B H' → WSs (cxOf CX0 P w K mg base N_ref "_law_refused" (defScope s_ref) f cdv A outer s0 H E).nox ((defBody s_ref).drop 1) { nx := fun _ H' => Q .non H', rt := Q } [some (.int wd), some v, some v2, some v3, none] H' := by
    intro hn H' g
    refine s_one (s_ret ?_)
    walk_at "E"
    refine k _ _ _ g ?_
    rw [hn]
    exact dtN
  refine s_one (s_if (t_cmp op_eq (h := ?_)))
  walk_at "E"
  refine ⟨rfl, _, rfl, ifd (fun c => ?_) fun c => ?_⟩
  · have ew : refF wd r s = dueF r s := by unfold refF; rw [if_pos (.inl (by simpa using c))]
    refine s_one (s_expr (h := e_callX e1 tk hr (h := ?_)))
    walk_at "E"
    refine ⟨B, _, _, _, r, s, ts, rfl, kB, hd, hd2, hd3, fun z u B' H' g _ => fine (ew.trans z) H' (g.base (Ex.refl B)), fun n hn => rai n (ew.trans hn)⟩
  refine s_one (s_if (t_cmp op_eq (h := ?_)))
  walk_at "E"
  refine ⟨rfl, _, rfl, ifd (fun c2 => ?_) fun c2 => ?_⟩
  · have ew : refF wd r s = dueF r s := by unfold refF; rw [if_pos (.inr (by simpa using c2))]
    refine s_one (s_expr (h := e_callX e2 tk hr (h := ?_)))
    walk_at "E"
    refine ⟨B, _, _, _, r, s, ts, rfl, kB, hd, hd2, hd3, fun z u B' H' g _ => fine (ew.trans z) H' (g.base (Ex.refl B)), fun n hn => rai n (ew.trans hn)⟩
  · have ew : refF wd r s = dueR r := by unfold refF; rw [if_neg (by rintro (z | z) <;> simp_all)]
    refine s_one (s_expr (h := e_callX e3 tk hr (h := ?_)))
    walk_at "E"
    refine ⟨B, _, _, r, s, rfl, kB, hd, hd2, fun z u B' H' g _ => fine (ew.trans z) H' (g.base (Ex.refl B)), fun n hn => rai n (ew.trans hn)⟩
end
end K34
namespace K34
open PySem L2 Evl Lw
/-- the parameters' order -/
def perm3b {α : Type} : List α → List α
  | [a, b, c] => [b, c, a]
  | l => l
theorem vals_perm3b {vs : List V} {us : List Value} (r : Vals vs us) : Vals (perm3b vs) (perm3b us) :=
  match r with
  | .nil => .nil
  | .cons a .nil => .cons a .nil
  | .cons a (.cons b .nil) => .cons a (.cons b .nil)
  | .cons a (.cons b (.cons c .nil)) => .cons b (.cons c (.cons a .nil))
  | .cons a (.cons b (.cons c (.cons d e))) => .cons a (.cons b (.cons c (.cons d e)))
/-! ### greater windows -/
def sc2 (W : Int) (p : I2) : I2 := (W * p.1, W * p.2)
def sc4 (W : Int) (q : I2 × I2) : I2 × I2 := (sc2 W q.1, sc2 W q.2)
theorem mul_max {W x y : Int} (h : 0 ≤ W) : max (W * x) (W * y) = W * max x y := by
  rcases Int.le_total x y with e | e
  · rw [Int.max_eq_right e, Int.max_eq_right (Int.mul_le_mul_of_nonneg_left e h)]
  · rw [Int.max_eq_left e, Int.max_eq_left (Int.mul_le_mul_of_nonneg_left e h)]
theorem mul_min {W x y : Int} (h : 0 ≤ W) : min (W * x) (W * y) = W * min x y := by
  rcases Int.le_total x y with e | e
  · rw [Int.min_eq_left e, Int.min_eq_left (Int.mul_le_mul_of_nonneg_left e h)]
  · rw [Int.min_eq_right e, Int.min_eq_right (Int.mul_le_mul_of_nonneg_left e h)]
theorem clip_sc {W r x : Int} (h : 0 ≤ W) : clipF (W * r) (W * x) = W * clipF r x := by
  unfold clipF
  rw [mul_min h]
  have e : (0 : Int) = W * 0 := by rw [Int.mul_zero]
  conv => lhs; rw [e]
  rw [mul_max h]
theorem step_sc {W : Int} (h : 0 ≤ W) (r : I2) (s : I2 × I2) (t : Int) : tlStep (sc2 W r) (sc4 W s) (W * t) = sc4 W (tlStep r s t) := by
  obtain ⟨⟨w, p⟩, ⟨d, u⟩⟩ := s
  obtain ⟨r1, r2⟩ := r
  unfold tlStep sc4 sc2
  simp only
  have e1 : W * w + W * t = W * (w + t) := (Int.mul_add ..).symm
  rw [e1, clip_sc h]
  have e2 : W * p + W * w + W * t - W * clipF r1 (w + t) = W * (p + w + t - clipF r1 (w + t)) := by rw [Int.mul_sub, Int.mul_add, Int.mul_add]
  rw [e2, clip_sc h]
  have e3 : W * w + W * p + W * t - W * clipF r1 (w + t) - W * clipF r2 (p + w + t - clipF r1 (w + t)) = W * (w + p + t - clipF r1 (w + t) - clipF r2 (p + w + t - clipF r1 (w + t))) := by rw [Int.mul_sub, Int.mul_sub, Int.mul_add, Int.mul_add]
  rw [e3]
  generalize w + p + t - clipF r1 (w + t) - clipF r2 (p + w + t - clipF r1 (w + t)) = q
  have e4 : max (W * q) 0 = W * max q 0 := by
    have e : (0 : Int) = W * 0 := by rw [Int.mul_zero]
    conv => lhs; rw [e]
    rw [mul_max h]
  have e5 : max (-(W * q)) 0 = W * max (-q) 0 := by
    have e : (0 : Int) = W * 0 := by rw [Int.mul_zero]
    conv => lhs; rw [← Int.mul_neg, e]
    rw [mul_max h]
  rw [e4, e5, Int.mul_add, Int.mul_add]
theorem tl_sc {W : Int} (h : 0 ≤ W) (r s : I2) (ts : List Int) : tlF (sc2 W r) (sc2 W s) (ts.map (W * ·)) = sc4 W (tlF r s ts) := by
  unfold tlF
  have key : ∀ (ts : List Int) (q : I2 × I2), (ts.map (W * ·)).foldl (tlStep (sc2 W r)) (sc4 W q) = sc4 W (ts.foldl (tlStep r) q) := by
    intro ts
    induction ts with
    | nil => exact fun q => rfl
    | cons t ts ih =>
      intro q
      rw [List.map_cons, List.foldl_cons, List.foldl_cons, step_sc h, ih]
  have e0 : ((sc2 W s, ((0 : Int), (0 : Int))) : I2 × I2) = sc4 W (s, (0, 0)) := by
    unfold sc4 sc2
    simp only [Int.mul_zero]
  rw [e0, key]
theorem due_none {r s : I2} (h : InR r s) : dueF r s = none := by
  obtain ⟨a, b, c, d⟩ := h
  unfold dueF
  rw [if_neg (by omega), if_neg (by omega), if_neg (by omega), if_neg (by omega)]
theorem in_sc {W : Int} (h : 0 ≤ W) {r s : I2} (k : InR r s) : InR (sc2 W r) (sc2 W s) :=
  ⟨Int.mul_nonneg h k.1, Int.mul_le_mul_of_nonneg_left k.2.1 h, Int.mul_nonneg h k.2.2.1, Int.mul_le_mul_of_nonneg_left k.2.2.2 h⟩
theorem lost_le {r s : I2} (h : InR r s) : ∀ {ts : List Int}, (∀ t ∈ ts, -1000 ≤ t ∧ t ≤ 1000) → 0 ≤ (tlF r s ts).2.1 ∧ (tlF r s ts).2.1 ≤ 1000 * ts.length ∧ 0 ≤ (tlF r s ts).2.2 ∧ (tlF r s ts).2.2 ≤ 1000 * ts.length := by
  have h1 : 0 ≤ r.1 := Int.le_trans h.1 h.2.1
  have h2 : 0 ≤ r.2 := Int.le_trans h.2.2.1 h.2.2.2
  have one : ∀ (q : I2 × I2) (t : Int), InR r q.1 → -1000 ≤ t → t ≤ 1000 → q.2.1 ≤ (tlStep r q t).2.1 ∧ (tlStep r q t).2.1 ≤ q.2.1 + 1000 ∧ q.2.2 ≤ (tlStep r q t).2.2 ∧ (tlStep r q t).2.2 ≤ q.2.2 + 1000 := by
    rintro ⟨⟨w, p⟩, ⟨d, u⟩⟩ t ⟨a, b, c, e⟩ t0 t1
    simp only at a b c e
    unfold tlStep clipF
    simp only
    omega
  have key : ∀ (ts : List Int) (q : I2 × I2), InR r q.1 → (∀ t ∈ ts, -1000 ≤ t ∧ t ≤ 1000) → q.2.1 ≤ (ts.foldl (tlStep r) q).2.1 ∧ (ts.foldl (tlStep r) q).2.1 ≤ q.2.1 + 1000 * ts.length ∧ q.2.2 ≤ (ts.foldl (tlStep r) q).2.2 ∧ (ts.foldl (tlStep r) q).2.2 ≤ q.2.2 + 1000 * ts.length := by
    intro ts
    induction ts with
    | nil => intro q _ _; simp only [List.foldl_nil, List.length_nil]; omega
    | cons t ts ih =>
      intro q hq ht
      obtain ⟨t0, t1⟩ := ht t List.mem_cons_self
      obtain ⟨a1, a2, a3, a4⟩ := one q t hq t0 t1
      obtain ⟨b1, b2, b3, b4⟩ := ih (tlStep r q t) (step_in h1 h2) fun t h => ht t (List.mem_cons_of_mem _ h)
      rw [List.foldl_cons, List.length_cons]
      omega
  intro ts hts
  have := key ts (s, (0, 0)) h hts
  unfold tlF
  simp only at this
  omega
section
variable {P : Program} {w : World} {K : PySem.W.Frag} {mg : Str → Option Value} {base : Heap} {C : Addr}
/-! _law_right -/
abbrev N_ri : List Str := ["_law_rooms", "_law_scrolls", "_law_turns_here", "_law_width", "_law_due_here", "_law_great", "_law_told", "_law_wide", "_law_far", "_law_turn"]
theorem sc_ri : FnScope N_ri ["_law_rooms", "_law_scrolls", "_law_turns_here", "_law_width"] (defScope s_right) := ⟨rfl, rfl, rfl, by decide +kernel, rfl, by decide +kernel, by decide +kernel⟩
def sp_ri (K : PySem.W.Frag) : Sp := fun vs H Q _ => ∃ (B : Hp) (v v2 v3 : V) (r s : I2) (ts : List Int) (W : Int), vs = [v, v2, v3, .int W] ∧ Ex B H ∧ Dt K B v r ∧ Dt K B v2 s ∧ Dt K B v3 ts ∧ InR r s ∧ r.1 ≤ 1000 ∧ r.2 ≤ 1000 ∧ (∀ t ∈ ts, -1000 ≤ t ∧ t ≤ 1000) ∧ ts.length ≤ 60 ∧ 1 ≤ W ∧ (∀ H', Gr M0 B H B H' → Q (.bl true) H')
theorem ok_ri (mi : mg "isinstance" = none) (mtu : mg "tuple" = none) (e0 : Cal P w K mg base "_law_ticks" 1 ["_law_rooms", "_law_scrolls", "_law_turns_here"] (sp_ti K)) (e1 : CalX P w K mg base "turned_by" 5 ["rooms", "scrolls", "turns"] (sp_tb K C)) (e2 : CalX P w K mg base "lost" 5 ["rooms", "scrolls", "turns"] (sp_lo K C))
    (k1 : CalKX P w K mg base "turned_by" 5 ["rooms", "scrolls", "turns"] ["turns", "scrolls", "rooms"] perm3 (sp_tb K C)) (k2 : CalKX P w K mg base "lost" 5 ["rooms", "scrolls", "turns"] ["turns", "rooms", "scrolls"] perm3b (sp_lo K C)) :
    ∀ f fd, Fun K "_law_right" "_law_right" s_right f fd → FnOk P w K mg base CX0 6 f fd ["_law_rooms", "_law_scrolls", "_law_turns_here", "_law_width"] (sp_ri K) := by
  refine ok_of sc_ri (fun vs H Q E h => by obtain ⟨_, _, _, _, _, _, _, _, rfl, _⟩ := h; rfl) (fun f cdv A outer s0 H vs Q E hr h => ?_)
  obtain ⟨B, v, v2, v3, r, s, ts, W, rfl, kB, hd, hd2, hd3, hin, hr1, hr2, hts, hlen, hW, k⟩ := h
  have hW0 : 0 ≤ W := by omega
  have hsc := tl_sc hW0 r s ts
  have hdn := due_none (in_sc hW0 hin)
  obtain ⟨l1, l2, l3, l4⟩ := lost_le hin hts
  have hq := tlF_in (ts := ts) hin
  refine s_cons (s_set 4 sc_ri.nd (h := e_call e0 (hr.mono (by decide)) (h := ?_)))
  walk_at "E"
  refine ⟨B, _, _, _, r, s, ts, rfl, kB, hd, hd2, hd3, hin, hts, fun u B1 H1 g1 du => ?_⟩
  obtain ⟨q, hqe⟩ : ∃ q, q = tlF r s ts := ⟨_, rfl⟩
  rw [← hqe] at du hsc hq l1 l2 l3 l4
  obtain ⟨c, cy, cz, rfl, cT, dy, dz⟩ := dt_pair du
  obtain ⟨y, rfl, yT⟩ := dt_i2 dy
  obtain ⟨z, rfl, zT⟩ := dt_i2 dz
  obtain ⟨a, rfl, aT⟩ := dt_i2 hd
  obtain ⟨b, rfl, bT⟩ := dt_i2 hd2
  obtain ⟨tl, tvs, rfl, tL, tD⟩ := dt_list hd3
  have lc : ∀ {Bq Hq : Hp} (gq : Gr M0 B H Bq Hq) {Dq : Addr} (hDq : Hq Dq = none) {Qd : Hp → Prop}, (∀ B' H' acc, Gr M0 Bq Hq B' H' → B' Dq = none → H' Dq = some (.lst acc) → Das K B' acc (ts.map (W * ·)) → Qd H') →
      ∀ {g : TG} {tt : TT} {te : TE} {vs : List Nat} {σ : L2.St}, (∀ (i : Nat) y B' H', ts[i]? = some y → Gr M0 Bq Hq B' H' →
        ∀ (KT : VK) (KF : Hp → Prop), (∀ b z B4 H4, some (W * y) = some b → Gr M0 B' H' B4 H4 → Dt K B4 z b → KT z H4) → (∀ B3 H3, some (W * y) = none → Gr M0 B' H' B3 H3 → KF H3) →
        g (.int y) (wipe σ vs) H' fun σ2 H2 => wipe σ2 vs = wipe σ vs ∧ tt σ2 H2 fun b H3 => if b = true then te σ2 H3 KT else KF H3) → tLcR (Itl K tl) g tt te vs σ Hq Dq Qd := by
    intro Bq Hq gq Dq hDq Qd hd g tt te vs σ hs
    refine lcL (K := K) (fun t => some (W * t)) (ex_l gq.b tL) (tD.mono gq.b) gq.k hDq (Nat.lt_of_le_of_lt hlen (by decide)) (fun i y x B' H' hy dx g' KT KF kt kf => ?_) fun B' H' acc g' b' e' d' => hd B' H' acc g' b' e' (by rw [fm_map] at d'; exact d')
    cases dt_int dx
    exact hs i y B' H' hy g' KT KF kt kf
  have ci : ∀ {x : Int}, 0 ≤ x → x ≤ 60000 → CMul W x := fun h1 h2 => .inr ⟨by omega, by omega⟩
  have hq' := hq
  obtain ⟨q1, q2, q3, q4⟩ := hq'
  have hin' := hin
  obtain ⟨i1, i2, i3, i4⟩ := hin'
  -- great
  refine s_cons (s_setLc 5 [("_law_turn", 9)] sc_ri.nd (ok := blkOk_by (N := N_ri) (sc := defScope s_right) (by decide +kernel)) (h := i_list ?_))
  walk_at "E"
  refine ⟨_, rfl, ⟨_, ex_l (g1.b.trans g1.k) tL⟩, fun D hD => lc g1 hD ?_ ?_⟩
  rotate_left
  · intro i y B' H' hy g KT KF kt kf s0 H0 C0 cl fp
    have hyb := hts y (List.mem_of_getElem? hy)
    refine g_name 9 sc_ri.nd (q := ⟨rfl, ?_⟩)
    intro s0 H0 C0 cl fp
    refine ts_nil (ift rfl ?_)
    intro s0 H0 C0 cl fp
    refine e_bin op_mul (h := ?_)
    walk_at "E"
    exact ⟨_, _, rfl, rfl, .inr ⟨by omega, by omega⟩, kt _ _ B' _ rfl (Gr.refl g.k) (dtI _)⟩
  intro B2 H2 acc g2 b2 e2' d2
  have gA := (g1.trans g2).learn (g1.free hD) b2 e2'
  have dG : Dt K (upd B2 D (.lst acc)) (.ref D) (ts.map (W * ·)) := dtL (SqL.of upd_same) (d2.mono (Ex.new b2))
  have ce := Ex.trans g2.b (Ex.new (p := D) (o := .lst acc) b2)
  -- told
  refine s_cons (s_set 6 sc_ri.nd (h := e_callX e1 takes0 (hr.mono (by decide)) (h := a_cons (h := e_tup (a_cons (h := e_bin op_mul (h := ?_)))))))
  walk_at "E"
  refine e_ixT (h := ?_)
  walk_at "E"
  refine ⟨_, _, _, _, rfl, rfl, ex_t (gA.b.trans gA.k) aT, rfl, _, _, rfl, rfl, ci (by omega) (by omega), a_cons (h := e_bin op_mul (h := ?_))⟩
  walk_at "E"
  refine e_ixT (h := ?_)
  walk_at "E"
  refine ⟨_, _, _, _, rfl, rfl, ex_t (gA.b.trans gA.k) aT, rfl, _, _, rfl, rfl, ci (by omega) (by omega), a_nil ⟨by show 2 ≤ sizeLine; decide, fun p1 hp1 => ?_⟩⟩
  have gB := gA.new (o := .tup [.int (W * r.1), .int (W * r.2)]) hp1
  refine a_cons (h := e_tup (a_cons (h := e_bin op_mul (h := ?_))))
  walk_at "E"
  refine e_ixT (h := ?_)
  walk_at "E"
  refine ⟨_, _, _, _, rfl, rfl, ex_t (gB.b.trans gB.k) bT, rfl, _, _, rfl, rfl, ci (by omega) (by omega), a_cons (h := e_bin op_mul (h := ?_))⟩
  walk_at "E"
  refine e_ixT (h := ?_)
  walk_at "E"
  refine ⟨_, _, _, _, rfl, rfl, ex_t (gB.b.trans gB.k) bT, rfl, _, _, rfl, rfl, ci (by omega) (by omega), a_nil ⟨by show 2 ≤ sizeLine; decide, fun p2 hp2 => ?_⟩⟩
  have gC := gB.new (o := .tup [.int (W * s.1), .int (W * s.2)]) hp2
  walk_at "E"
  have n1 := none_of_ex gA.k hp1
  have n2 := none_of_ex gB.k hp2
  refine ⟨_, _, _, _, sc2 W r, sc2 W s, ts.map (W * ·), rfl, gC.k, (dtI2 (SqT.of upd_same)).mono (Ex.new n2), dtI2 (SqT.of upd_same), (dG.mono (Ex.new n1)).mono (Ex.new n2), fun _ vt B3 H3 g3 dt => ?_, fun n hn => by rw [hdn] at hn; cases hn⟩
  have gD := gC.trans g3
  have cD : Ex B1 B3 := ((ce.trans (Ex.new n1)).trans (Ex.new n2)).trans g3.b
  have dG3 := ((dG.mono (Ex.new n1)).mono (Ex.new n2)).mono g3.b

  rw [hsc] at dt
  -- told != (..) or not isinstance
  refine s_cons (s_if (t_wb (b_or (t_cmp (op_neD hr.units) (h := ?_)))))
  walk_at "nm"
  refine e_tup (a_cons (h := e_bin op_mul (h := ?_)))
  walk_at "E"
  refine e_ixT (h := e_ixT (h := ?_))
  walk_at "E"
  refine ⟨_, _, _, _, rfl, rfl, ex_t (cD.trans gD.k) cT, rfl, ?_⟩
  walk_at "E"
  refine ⟨_, _, _, _, rfl, rfl, ex_t (cD.trans gD.k) yT, rfl, _, _, rfl, rfl, ci (by omega) (by omega), a_cons (h := e_bin op_mul (h := ?_))⟩
  walk_at "E"
  refine e_ixT (h := e_ixT (h := ?_))
  walk_at "E"
  refine ⟨_, _, _, _, rfl, rfl, ex_t (cD.trans gD.k) cT, rfl, ?_⟩
  walk_at "E"
  refine ⟨_, _, _, _, rfl, rfl, ex_t (cD.trans gD.k) yT, rfl, _, _, rfl, rfl, ci (by omega) (by omega), a_nil ⟨by show 2 ≤ sizeLine; decide, fun p3 hp3 => ?_⟩⟩
  have gE := gD.own (o := .tup [.int (W * q.1.1), .int (W * q.1.2)]) hp3
  refine ne_dat (B := upd H3 p3 _) (x := sc2 W q.1) (y := sc2 W q.1) ((dt.mono gD.k).mono (Ex.new hp3)) (dtI2 (SqT.of upd_same)) (Ex.refl _) (by decide) ⟨_, rfl, ifn (fun z => absurd rfl z) fun _ => ?_⟩
  obtain ⟨vta, rfl, vtT⟩ := dt_i2 dt
  refine b_or1 (t_not (t_val (e_blt call_isi mi (by decide +kernel) ?_)))
  walk_at "E"
  refine e_bltn mtu bnm_tuple (v := .ty "tuple") rfl (q := ?_)
  walk_at "E"
  refine ⟨_, _, .type "tuple", .type "tuple", true, rfl, .ty _, tyx_t (ex_t gE.k vtT), kit_ty (by decide +kernel), true, rfl, iff_ rfl (s_nil ?_)⟩
  show WSs _ _ _ _ (upd H3 p3 _)
  generalize upd H3 p3 (HO.tup [.int (W * q.1.1), .int (W * q.1.2)]) = H4 at *
  -- wide, far
  refine s_cons (s_par 7 8 sc_ri.nd (h := a_cons (h := e_tup (a_cons (h := e_bin op_mul (h := ?_))))))
  walk_at "E"
  refine e_ixT (h := ?_)
  walk_at "E"
  refine ⟨_, _, _, _, rfl, rfl, ex_t (gE.b.trans gE.k) aT, rfl, _, _, rfl, rfl, ci (by omega) (by omega), a_cons (h := e_bin op_mul (h := ?_))⟩
  walk_at "E"
  refine e_ixT (h := ?_)
  walk_at "E"
  refine ⟨_, _, _, _, rfl, rfl, ex_t (gE.b.trans gE.k) aT, rfl, _, _, rfl, rfl, ci (by omega) (by omega), a_nil ⟨by show 2 ≤ sizeLine; decide, fun p5 hp5 => ?_⟩⟩
  have gF := gE.new (o := .tup [.int (W * r.1), .int (W * r.2)]) hp5
  refine a_cons (h := e_tup (a_cons (h := e_bin op_mul (h := ?_))))
  walk_at "E"
  refine e_ixT (h := ?_)
  walk_at "E"
  refine ⟨_, _, _, _, rfl, rfl, ex_t (gF.b.trans gF.k) bT, rfl, _, _, rfl, rfl, ci (by omega) (by omega), a_cons (h := e_bin op_mul (h := ?_))⟩
  walk_at "E"
  refine e_ixT (h := ?_)
  walk_at "E"
  refine ⟨_, _, _, _, rfl, rfl, ex_t (gF.b.trans gF.k) bT, rfl, _, _, rfl, rfl, ci (by omega) (by omega), a_nil ⟨by show 2 ≤ sizeLine; decide, fun p6 hp6 => ?_⟩⟩
  have gG := gF.new (o := .tup [.int (W * s.1), .int (W * s.2)]) hp6
  have n5 := none_of_ex gE.k hp5
  have n6 := none_of_ex gF.k hp6
  refine a_nil ⟨_, _, rfl, ?_⟩
  -- lost
  refine s_cons (s_set 6 sc_ri.nd (h := e_callKX k2 (hr.mono (by decide)) (h := ?_)))
  walk_at "E"
  refine ⟨rfl, rfl, _, _, _, _, sc2 W r, sc2 W s, ts.map (W * ·), rfl, gG.k, (dtI2 (SqT.of upd_same)).mono (Ex.new n6), dtI2 (SqT.of upd_same), (dG3.mono (Ex.new n5)).mono (Ex.new n6), fun _ vt B7 H7 g7 dt => ?_, fun n hn => by rw [hdn] at hn; cases hn⟩
  have gH := gG.trans g7
  have cH : Ex B3 B7 := ((Ex.new n5).trans (Ex.new n6)).trans g7.b
  have dG7 := dG3.mono cH
  rw [hsc] at dt
  refine s_cons (s_if (t_wb (b_or (t_cmp (op_neD hr.units) (h := ?_)))))
  walk_at "nm"
  refine e_tup (a_cons (h := e_bin op_mul (h := ?_)))
  walk_at "E"
  refine e_ixT (h := e_ixT (h := ?_))
  walk_at "E"
  refine ⟨_, _, _, _, rfl, rfl, ex_t ((cD.trans cH).trans gH.k) cT, rfl, ?_⟩
  walk_at "E"
  refine ⟨_, _, _, _, rfl, rfl, ex_t ((cD.trans cH).trans gH.k) zT, rfl, _, _, rfl, rfl, ci (by omega) (by omega), a_cons (h := e_bin op_mul (h := ?_))⟩
  walk_at "E"
  refine e_ixT (h := e_ixT (h := ?_))
  walk_at "E"
  refine ⟨_, _, _, _, rfl, rfl, ex_t ((cD.trans cH).trans gH.k) cT, rfl, ?_⟩
  walk_at "E"
  refine ⟨_, _, _, _, rfl, rfl, ex_t ((cD.trans cH).trans gH.k) zT, rfl, _, _, rfl, rfl, ci (by omega) (by omega), a_nil ⟨by show 2 ≤ sizeLine; decide, fun p8 hp8 => ?_⟩⟩
  have gI := gH.own (o := .tup [.int (W * q.2.1), .int (W * q.2.2)]) hp8
  refine ne_dat (B := upd H7 p8 _) (x := sc2 W q.2) (y := sc2 W q.2) ((dt.mono gH.k).mono (Ex.new hp8)) (dtI2 (SqT.of upd_same)) (Ex.refl _) (by decide) ⟨_, rfl, ifn (fun z => absurd rfl z) fun _ => ?_⟩
  generalize upd H7 p8 (HO.tup [.int (W * q.2.1), .int (W * q.2.2)]) = H8 at *
  refine b_or1 (t_cmp (op_neD hr.units) (h := ?_))
  walk_at "nm"
  refine e_lc [("_law_turn", 9)] sc_ri.nd (ok := blkOk_by (N := N_ri) (sc := defScope s_right) (by decide +kernel)) (h := i_list ?_)
  walk_at "E"
  refine ⟨_, rfl, ⟨_, ex_l (gI.b.trans gI.k) tL⟩, fun Dq hDq => lc gI hDq ?_ ?_⟩
  rotate_left
  · intro i y B' H' hy g KT KF kt kf s0 H0 C0 cl fp
    have hyb := hts y (List.mem_of_getElem? hy)
    refine g_name 9 sc_ri.nd (q := ⟨rfl, ?_⟩)
    intro s0 H0 C0 cl fp
    refine ts_nil (ift rfl ?_)
    intro s0 H0 C0 cl fp
    refine e_bin op_mul (h := ?_)
    walk_at "E"
    exact ⟨_, _, rfl, rfl, .inr ⟨by omega, by omega⟩, kt _ _ B' _ rfl (Gr.refl g.k) (dtI _)⟩
  intro B9 H9 acc9 g9 b9 e9' d9
  have gJ := gI.trans g9
  refine ne_dat (B := H9) (x := ts.map (W * ·)) (y := ts.map (W * ·)) ((dG7.mono g9.b).mono gJ.k) (dtL (SqL.of e9') (d9.mono gJ.k)) (Ex.refl _) (by decide) ⟨_, rfl, ifn (fun z => absurd rfl z) fun _ => s_nil ?_⟩
  -- the last two
  have cJ : Ex B1 B9 := (cD.trans cH).trans g9.b
  refine s_one (s_ret (e_and (e_cmp (op_eqD hr.units) (h := e_callKX k1 (hr.mono (by decide)) (h := ?_)))))
  walk_at "E"
  refine ⟨rfl, rfl, B, _, _, _, r, s, ts, rfl, gJ.b.trans gJ.k, hd, hd2, hd3, fun _ va Ba Ha ga da => ?_, fun n hn => by rw [due_none hin] at hn; cases hn⟩
  refine e_ixT (h := ?_)
  walk_at "E"
  have exA := ga.ex
  refine ⟨_, _, _, _, rfl, rfl, ex_t ((cJ.trans gJ.k).trans exA) cT, rfl, ?_⟩
  rw [← hqe] at da
  refine eq_dat (B := Ha) (x := q.1) (y := q.1) (da.mono ga.k) ((dy.mono cJ).mono (gJ.k.trans exA)) (Ex.refl _) (by decide) ⟨_, rfl, ifd (fun _ => ?_) fun z => absurd rfl z⟩
  refine e_one (e_cmp (op_eqD hr.units) (h := e_callX e2 takes0 (hr.mono (by decide)) (h := ?_)))
  walk_at "E"
  refine ⟨B, _, _, _, r, s, ts, rfl, (gJ.b.trans gJ.k).trans exA, hd, hd2, hd3, fun _ vb Bb Hb gb db => ?_, fun n hn => by rw [due_none hin] at hn; cases hn⟩
  refine e_ixT (h := ?_)
  walk_at "E"
  have exB := exA.trans gb.ex
  refine ⟨_, _, _, _, rfl, rfl, ex_t ((cJ.trans gJ.k).trans exB) cT, rfl, ?_⟩
  rw [← hqe] at db
  refine eq_dat (B := Hb) (x := q.2) (y := q.2) (db.mono gb.k) ((dz.mono cJ).mono (gJ.k.trans exB)) (Ex.refl _) (by decide) ?_
  rw [show decide (q.2 = q.2) = true from decide_eq_true rfl]
  exact k _ ((gJ.base (Ex.refl B)).trans (gr_ex (gJ.b.trans gJ.k) exB))
end
end K34
namespace K34
open PySem L2 Evl Lw
/-! ### the middle one of three -/
theorem med3 {lo t hi : Int} {ns : List Int} (h : lo ≤ hi) (hp : ns.Perm [lo, t, hi]) (hs : ns.Pairwise (· ≤ ·)) : ∃ a c, ns = [a, max lo (min t hi), c] := by
  by_cases h1 : t ≤ lo
  · refine ⟨t, hi, ?_⟩
    rw [show max lo (min t hi) = lo by omega]
    exact srtI_uniq (ks := [lo, t, hi]) ⟨hp, hs⟩ ⟨List.Perm.swap lo t [hi], by simp; omega⟩
  · by_cases h2 : t ≤ hi
    · refine ⟨lo, hi, ?_⟩
      rw [show max lo (min t hi) = t by omega]
      exact srtI_uniq (ks := [lo, t, hi]) ⟨hp, hs⟩ ⟨List.Perm.refl _, by simp; omega⟩
    · refine ⟨lo, t, ?_⟩
      rw [show max lo (min t hi) = hi by omega]
      exact srtI_uniq (ks := [lo, t, hi]) ⟨hp, hs⟩ ⟨List.Perm.cons lo (List.Perm.swap t hi []), by simp; omega⟩
theorem med_at {lo t hi : Int} {ns : List Int} (h : lo ≤ hi) (hp : ns.Perm [lo, t, hi]) (hs : ns.Pairwise (· ≤ ·)) : atI (ns.map V.int) 1 = some (.int (max lo (min t hi))) := by
  obtain ⟨a, c, e⟩ := med3 h hp hs
  rw [e]
  rfl
section
variable {P : Program} {w : World} {K : PySem.W.Frag} {mg : Str → Option Value} {base : Heap} {C : Addr}
/-! _law_clipped_right -/
abbrev N_cr : List Str := ["_law_rooms", "_law_scrolls", "_law_width", "_law_many", "_law_told", "_law_due_here", "_law_size", "_law_scroll"]
theorem sc_cr : FnScope N_cr ["_law_rooms", "_law_scrolls", "_law_width"] (defScope s_cr) := ⟨rfl, rfl, rfl, by decide +kernel, rfl, by decide +kernel, by decide +kernel⟩
def sp_cr (K : PySem.W.Frag) : Sp := fun vs H Q _ => ∃ (B : Hp) (v v2 : V) (r s : I2) (W : Int), vs = [v, v2, .int W] ∧ Ex B H ∧ Dt K B v r ∧ Dt K B v2 s ∧ 0 ≤ r.1 ∧ 0 ≤ r.2 ∧ r.1 ≤ 1000 ∧ r.2 ≤ 1000 ∧ -1000 ≤ s.1 ∧ s.1 ≤ 1000 ∧ -1000 ≤ s.2 ∧ s.2 ≤ 1000 ∧ 1 ≤ W ∧ (∀ H', Gr M0 B H B H' → Q (.bl true) H')
theorem clip_med {r x : Int} (h : 0 ≤ r) : clipF r x = max 0 (min x r) := by unfold clipF; omega
theorem ok_cr (mz : mg "zip" = none) (ms : mg "sorted" = none) (mtu : mg "tuple" = none) (k3 : CalKX P w K mg base "clipped" 5 ["rooms", "scrolls"] ["scrolls", "rooms"] perm2 (sp_cl K C)) :
    ∀ f fd, Fun K "_law_clipped_right" "_law_clipped_right" s_cr f fd → FnOk P w K mg base CX0 6 f fd ["_law_rooms", "_law_scrolls", "_law_width"] (sp_cr K) := by
  refine ok_of sc_cr (fun vs H Q E h => by obtain ⟨_, _, _, _, _, _, rfl, _⟩ := h; rfl) (fun f cdv A outer s0 H vs Q E hr h => ?_)
  obtain ⟨B, v, v2, r, s, W, rfl, kB, hd, hd2, r1, r2, r3, r4, s1, s2, s3, s4, hW, k⟩ := h
  obtain ⟨a, rfl, aT⟩ := dt_i2 hd
  obtain ⟨b, rfl, bT⟩ := dt_i2 hd2
  refine s_cons (s_for (h := i_list (e_lst ?_)))
  walk_at "E"
  refine ⟨by show 2 ≤ sizeLine; decide, fun L hL => ?_⟩
  have g0 := (Gr.refl (M := M0) kB).own (o := .lst [.int 1, .int W]) hL
  have eL : (upd H L (.lst [.int 1, .int W])) L = some (.lst ([1, W].map V.int)) := upd_same
  generalize upd H L (HO.lst [.int 1, .int W]) = H0 at *
  refine ⟨_, rfl, ⟨_, SqL.of eL⟩, for_it walk_list (fun i σ H' => Gr M0 B H B H' ∧ Ex H0 H' ∧ ∃ u3 u4 u5, σ = [some (.ref a), some (.ref b), some (.int W), u3, u4, u5, none, none]) ⟨g0, Ex.refl _, none, none, none, rfl⟩ (fun i σ H' _ ⟨_, e, _⟩ => SqL.of (e _ _ eL)) ?_ ?_⟩
  · rintro i x σ H1 H2 hi ⟨g1, ex1, u3, u4, u5, rfl⟩ ⟨rfl, hx⟩
    obtain ⟨m, rfl, hm⟩ : ∃ m, x = .int m ∧ 1 ≤ m := by
      match i, hi, hx with
      | 0, _, hx => exact ⟨1, by simpa using hx.symm, by omega⟩
      | 1, _, hx => exact ⟨W, by simpa using hx.symm, hW⟩
    have hm0 : 0 ≤ m := by omega
    have ci : ∀ {x : Int}, -1000 ≤ x → x ≤ 1000 → CMul m x := fun h1 h2 => .inr ⟨by omega, by omega⟩
    refine g_name 3 sc_cr.nd (q := ?_)
    refine s_cons (s_set 4 sc_cr.nd (h := e_callKX k3 hr (h := k_cons (e_tup (a_cons (h := e_bin op_mul (h := ?_)))))))
    walk_at "E"
    refine e_ixT (h := ?_)
    walk_at "E"
    refine ⟨_, _, _, _, rfl, rfl, ex_t g1.k bT, rfl, _, _, rfl, rfl, ci (by omega) (by omega), a_cons (h := e_bin op_mul (h := ?_))⟩
    walk_at "E"
    refine e_ixT (h := ?_)
    walk_at "E"
    refine ⟨_, _, _, _, rfl, rfl, ex_t g1.k bT, rfl, _, _, rfl, rfl, ci (by omega) (by omega), a_nil ⟨by show 2 ≤ sizeLine; decide, fun p1 hp1 => ?_⟩⟩
    have gB := (Gr.refl (M := M0) g1.k).new (o := .tup [.int (m * s.1), .int (m * s.2)]) hp1
    refine k_cons (e_tup (a_cons (h := e_bin op_mul (h := ?_))))
    walk_at "E"
    refine e_ixT (h := ?_)
    walk_at "E"
    refine ⟨_, _, _, _, rfl, rfl, ex_t (gB.b.trans gB.k) aT, rfl, _, _, rfl, rfl, ci (by omega) (by omega), a_cons (h := e_bin op_mul (h := ?_))⟩
    walk_at "E"
    refine e_ixT (h := ?_)
    walk_at "E"
    refine ⟨_, _, _, _, rfl, rfl, ex_t (gB.b.trans gB.k) aT, rfl, _, _, rfl, rfl, ci (by omega) (by omega), a_nil ⟨by show 2 ≤ sizeLine; decide, fun p2 hp2 => ?_⟩⟩
    have gC := gB.new (o := .tup [.int (m * r.1), .int (m * r.2)]) hp2
    walk_at "E"
    have n1 := none_of_ex g1.k hp1
    have n2 := none_of_ex gB.k hp2
    have mr1 : 0 ≤ m * r.1 := Int.mul_nonneg hm0 r1
    have mr2 : 0 ≤ m * r.2 := Int.mul_nonneg hm0 r2
    have hdu : dueR ((m * r.1, m * r.2) : I2) = none := by
      unfold dueR
      rw [if_neg (by simp only; omega), if_neg (by simp only; omega)]
    refine ⟨rfl, rfl, _, _, _, (m * r.1, m * r.2), (m * s.1, m * s.2), rfl, gC.k, dtI2 (SqT.of upd_same), (dtI2 (SqT.of upd_same)).mono (Ex.new n2), fun _ vt B3 H3 g3 dt => ?_, fun n hn => by rw [hdu] at hn; cases hn⟩
    have gD := gC.trans g3
    -- due_here
    refine s_cons (s_setLc 5 [("_law_size", 6), ("_law_scroll", 7)] sc_cr.nd (ok := blkOk_by (N := N_cr) (sc := defScope s_cr) (by decide +kernel)) (h := i_zipT mz (h := ?_)))
    walk_at "E"
    refine ⟨_, _, _, _, rfl, ex_t (gD.b.trans gD.k) aT, ex_t (gD.b.trans gD.k) bT, fun D hD => lcF (K := K) (xs := [(r.1, s.1), (r.2, s.2)]) (fun p : Int × Int => some (max 0 (min (m * p.2) (m * p.1)))) (walk_zipT (n := 2) rfl) gD.k hD (by show 2 < sizeLine; decide) (fun B' H' g => ⟨ex_t ((gD.b.trans g.b).trans g.k) aT, ex_t ((gD.b.trans g.b).trans g.k) bT⟩) ?_ ?_⟩
    · rintro i pr x B' H' H'' hpr g ⟨T, x, y, rfl, hT, rfl, hx, hy⟩ KT KF kt kf s0 H0 C0 cl fp
      have hxy : x = .int pr.1 ∧ y = .int pr.2 ∧ 0 ≤ pr.1 ∧ pr.1 ≤ 1000 ∧ -1000 ≤ pr.2 ∧ pr.2 ≤ 1000 := by
        match i, hpr, hx, hy with
        | 0, hpr, hx, hy => cases hpr; cases hx; cases hy; exact ⟨rfl, rfl, r1, r3, s1, s2⟩
        | 1, hpr, hx, hy => cases hpr; cases hx; cases hy; exact ⟨rfl, rfl, r2, r4, s3, s4⟩
      obtain ⟨rfl, rfl, x1, x2, y1, y2⟩ := hxy
      have gT := (Gr.refl (M := M0) g.k).own (o := .tup [.int pr.1, .int pr.2]) hT
      refine g_tup (SqT.of upd_same) rfl (h := gs_cons (h := g_name 6 sc_cr.nd (q := gs_cons (h := g_name 7 sc_cr.nd (q := gs_nil ⟨rfl, ?_⟩)))))
      intro s0 H0 C0 cl fp
      refine ts_nil (ift rfl ?_)
      intro s0 H0 C0 cl fp
      refine e_ixL (h := e_blt cr_sorted ms (by decide +kernel) (a_cons (h := e_lst (a_cons (h := e_int (a_cons (h := e_bin op_mul (h := ?_)))))))) 
      walk_at "E"
      refine ⟨_, _, rfl, rfl, ci (by omega) (by omega), a_cons (h := e_bin op_mul (h := ?_))⟩
      walk_at "E"
      refine ⟨_, _, rfl, rfl, ci (by omega) (by omega), a_nil ⟨by show 3 ≤ sizeLine; decide, fun p5 hp5 => ?_⟩⟩
      walk_at "E"
      refine ⟨p5, [0, m * pr.2, m * pr.1], rfl, SqL.of upd_same, (by show 3 < 64; decide), fun ns p6 hpm hsr hp6 => ?_⟩
      have gU := (gT.own (o := .lst [.int 0, .int (m * pr.2), .int (m * pr.1)]) hp5).own (o := .lst (ns.map V.int)) hp6
      walk_at "E"
      refine ⟨p6, _, _, _, rfl, rfl, SqL.of upd_same, med_at (Int.mul_nonneg hm0 x1) hpm hsr, ?_⟩
      exact kt _ _ B' _ rfl gU (dtI _)
    intro B4 H4 acc g4 b4 e4 d4
    have gE := (gD.trans g4).learn (gD.free hD) b4 e4
    have ei : acc = [V.int (max 0 (min (m * s.1) (m * r.1))), V.int (max 0 (min (m * s.2) (m * r.2)))] := d4.ints
    subst ei
    refine s_one (s_if (t_cmp (op_neD hr.units) (h := ?_)))
    walk_at "nm"
    refine e_ty call_tuple_of mtu bnm_tuple ?_
    walk_at "E"
    refine ⟨_, _, rfl, .inl ⟨SqL.of e4, fun l hl => ?_⟩⟩
    have gF := gE.own (o := .tup [V.int (max 0 (min (m * s.1) (m * r.1))), V.int (max 0 (min (m * s.2) (m * r.2)))]) hl
    rw [clip_med mr1, clip_med mr2] at dt
    refine ne_dat (B := upd H4 l _) (x := ((max 0 (min (m * s.1) (m * r.1)), max 0 (min (m * s.2) (m * r.2))) : I2)) (y := ((max 0 (min (m * s.1) (m * r.1)), max 0 (min (m * s.2) (m * r.2))) : I2)) ((dt.mono (g4.b.trans g4.k)).mono (Ex.new hl)) (dtI2 (SqT.of upd_same)) (Ex.refl _) (by decide) ⟨_, rfl, ifn (fun z => absurd rfl z) fun _ => s_nil ?_⟩
    have gG := g1.trans (gF.base (Ex.refl B))
    exact ⟨gG, ex1.trans gF.ex, _, _, _, rfl⟩
  · rintro σ H1 ⟨g1, _, u3, u4, u5, rfl⟩
    refine s_one (s_ret ?_)
    walk_at "E"
    exact k H1 g1

/-! _law_room_right -/
abbrev N_rr : List Str := ["_law_jug_here", "_law_lines", "_law_height", "_law_due_here", "_law_told", "_law_many", "e"]
theorem sc_rr : FnScope N_rr ["_law_jug_here"] (defScope s_rr) := ⟨rfl, rfl, rfl, by decide +kernel, rfl, by decide +kernel, by decide +kernel⟩
def sp_rr : Sp := fun vs H Q _ => ∃ (B : Hp) (d : Addr) (n : Nat), vs = [.ref d] ∧ Jk B H d (n + 2) ∧ ∀ H', Gr (Md d) B H B H' → Jk B H' d n → Q (.bl true) H'
def roF (l h : Int) : List Int := if l < 0 then [l] else if h < 1 then [h] else []
theorem ok_rr (T : ExC P w K mg base "InvalidNumber" C) (mr : mg "range" = none) (ml : mg "len" = none) (e0 : Cal P w K mg base "_law_pour" 1 ["_law_jug_here", "_law_many"] sp_pour) (e1 : CalX P w K mg base "room_of" 4 ["lines", "height"] (sp_ro C)) (k1 : CalKX P w K mg base "room_of" 4 ["lines", "height"] ["height", "lines"] perm2 (sp_ro C)) :
    ∀ f fd, Fun K "_law_room_right" "_law_room_right" s_rr f fd → FnOk P w K mg base CX0 5 f fd ["_law_jug_here"] sp_rr := by
  refine ok_of sc_rr (fun vs H Q E h => by obtain ⟨_, _, _, rfl, _⟩ := h; rfl) (fun f cdv A outer s0 H vs Q E hr h => ?_)
  obtain ⟨B, d, n, rfl, j0, k⟩ := h
  refine s_cons (s_par 1 2 sc_rr.nd (h := a_cons (h := e_sub (h := e_call e0 (hr.mono (by decide)) (h := ?_)))))
  walk_at "E"
  refine pour_k (n := n + 1) j0 (by decide) (by decide) fun l H1 l0 l1 g1 j1 => ?_
  walk_at "E"
  refine ⟨_, _, rfl, rfl, a_cons (h := e_sub (h := e_call e0 (hr.mono (by decide)) (h := ?_)))⟩
  walk_at "E"
  refine pour_k (n := n) j1 (by decide) (by decide) fun h H2 h0 h1 g2 j2 => ?_
  walk_at "E"
  refine ⟨_, _, rfl, rfl, a_nil ⟨_, _, rfl, ?_⟩⟩
  have gA := g1.trans g2
  have hl : -100 ≤ l - 1 ∧ l - 1 ≤ 100 := by omega
  have hh : -100 ≤ h - 1 ∧ h - 1 ≤ 100 := by omega
  generalize l - 1 = l' at *
  generalize h - 1 = h' at *
  -- due_here
  have due : ∀ {D' : Ends}, (∀ p H3, Gr (Md d) B H B H3 → Jk B H3 d n → H p = none → H3 p = some (.lst ((roF l' h').map V.int)) → D'.nx [some (.ref d), some (.int l'), some (.int h'), some (.ref p), none, none, none] H3) →
      WS (cxOf CX0 P w K mg base N_rr "_law_room_right" (defScope s_rr) f cdv A outer s0 H E).nox ((defBody s_rr).getD 1 (.Pass ⟨0, 0, 0, 0⟩)) D' [some (.ref d), some (.int l'), some (.int h'), none, none, none, none] H2 := by
    intro D' q
    have fin : ∀ (p : Addr) (hp : H2 p = none), D'.nx [some (.ref d), some (.int l'), some (.int h'), some (.ref p), none, none, none] (upd H2 p (.lst ((roF l' h').map V.int))) := fun p hp => q p _ (gA.own hp) (j2.own hp) (gA.free hp) upd_same
    refine s_set 3 sc_rr.nd (h := e_if (t_cmp op_lt (h := ?_)))
    walk_at "E"
    refine ⟨_, _, rfl, rfl, _, rfl, ifd (fun c => ?_) fun c => ?_⟩
    · walk_at "E"
      refine ⟨by show 1 ≤ sizeLine; decide, fun p hp => ?_⟩
      have := fin p hp
      unfold roF at this
      rw [if_pos c] at this
      exact this
    refine e_if (t_cmp op_lt (h := ?_))
    walk_at "E"
    refine ⟨_, _, rfl, rfl, _, rfl, ifd (fun c2 => ?_) fun c2 => ?_⟩
    · walk_at "E"
      refine ⟨by show 1 ≤ sizeLine; decide, fun p hp => ?_⟩
      have := fin p hp
      unfold roF at this
      rw [if_neg c, if_pos c2] at this
      exact this
    · walk_at "E"
      refine ⟨Nat.zero_le _, fun p hp => ?_⟩
      have := fin p hp
      unfold roF at this
      rw [if_neg c, if_neg c2] at this
      exact this
  refine s_cons (due fun p H3 g3 j3 hp0 e3 => ?_)
  refine s_cons (s_set 4 sc_rr.nd (h := e_lst (a_nil ⟨Nat.zero_le _, fun t ht => ?_⟩)))
  have g4 := g3.own (o := .lst []) ht
  have j4 := j3.own (o := .lst []) ht
  have np : p ≠ t := ne_of_none e3 ht
  have e4 : (upd H3 t (.lst [])) p = some (.lst ((roF l' h').map V.int)) := by rw [upd_ne np]; exact e3
  have et : (upd H3 t (.lst [])) t = some (.lst (([] : List Int).map V.int)) := upd_same
  generalize upd H3 t (HO.lst []) = H4 at *
  have tail : ∀ (tt : Addr) (u : Option V) (H5 : Hp), Gr (Md d) B H B H5 → Jk B H5 d n → H5 p = some (.lst ((roF l' h').map V.int)) → H5 tt = some (.lst ((roF l' h').map V.int)) →
      WSs (cxOf CX0 P w K mg base N_rr "_law_room_right" (defScope s_rr) f cdv A outer s0 H E).nox ((defBody s_rr).drop 4) { nx := fun _ H' => Q .non H', rt := Q } [some (.ref d), some (.int l'), some (.int h'), some (.ref p), some (.ref tt), u, none] H5 := by
    intro tt u H5 g5 j5 ep et5
    refine s_one (s_ret (e_and (e_cmp (op_eqD hr.units) (h := ?_))))
    walk_at "E"
    refine eq_dat (B := H5) (x := roF l' h') (y := roF l' h') (dtL (SqL.of et5) das_ints) (dtL (SqL.of ep) das_ints) (Ex.refl _) (by decide) ⟨_, rfl, ifd (fun _ => ?_) fun z => absurd rfl z⟩
    refine e_and (e_cmp op_eq (h := e_callX e1 takes0 hr (h := a_cons (h := e_sub (h := e_pow (h := ?_))))))
    walk_at "E"
    refine ⟨_, _, rfl, rfl, ⟨by decide, by decide, by decide⟩, ?_⟩
    walk_at "E"
    refine ⟨_, _, rfl, rfl, ?_⟩
    walk_at "E"
    refine ⟨_, _, rfl, fun z => absurd z (by decide), fun _ z => absurd z (by decide), fun _ _ => ?_⟩
    refine e_sub (h := e_pow (h := ?_))
    walk_at "E"
    refine ⟨_, _, rfl, rfl, ⟨by decide, by decide, by decide⟩, ?_⟩
    walk_at "E"
    refine ⟨_, _, rfl, rfl, rfl, _, rfl, ?_⟩
    refine ift (by decide) ?_
    refine e_one (e_cmp op_eq (h := e_callX e1 takes0 hr (h := a_cons (h := e_int (a_cons (h := e_sub (h := e_pow (h := ?_))))))))
    walk_at "E"
    refine ⟨_, _, rfl, rfl, ⟨by decide, by decide, by decide⟩, ?_⟩
    walk_at "E"
    refine ⟨_, _, rfl, rfl, ?_⟩
    walk_at "E"
    refine ⟨_, _, rfl, fun z => absurd z (by decide), fun _ z => absurd z (by decide), fun _ _ => ?_⟩
    walk_at "E"
    refine ⟨rfl, ?_⟩
    exact k _ g5 j5
  refine s_cons (s_tryAs 6 sc_rr.nd T.gC (h := fun W pn xe tk po hW => ?_))
  have rai : ∀ m, roF l' h' = [m] → Rai C H4 (fun cls dd H' => W cls dd [some (.ref d), some (.int l'), some (.int h'), some (.ref p), some (.ref t), none, none] H') m := by
    intro m hn dd H' ex hd' hx
    refine hW C dd _ H' T.te fun a oe pn hz hf ha => ?_
    refine s_one (s_set 4 sc_rr.nd (h := e_lst (a_cons (h := e_xf T.xf T.nv hz hf (h := ?_)))))
    walk_at "E"
    refine ⟨rfl, rfl, dd, _, _, rfl, hx, rfl, ?_⟩
    walk_at "E"
    refine ⟨by show 1 ≤ sizeLine; decide, fun q hq => ?_⟩
    have gx := gr_ex j4.k ex
    refine tail q _ _ ((g4.trans gx.up).own hq) ((j4.gr gx).own hq) ?_ ?_
    · rw [upd_ne (ne_of_none (ex _ _ e4) hq)]; exact ex _ _ e4
    · rw [hn]; exact upd_same
  refine s_cons (s_set 5 sc_rr.nd (h := e_callX e1 tk hr (h := ?_)))
  walk_at "E"
  refine ⟨_, _, rfl, fun z => rai _ (by unfold roF; rw [if_pos z]), fun z z2 => rai _ (by unfold roF; rw [if_neg (by omega), if_pos z2]), fun z z2 => ?_⟩
  have er : roF l' h' = [] := by unfold roF; rw [if_neg (by omega), if_neg (by omega)]
  refine s_one (s_if (t_wb (b_or (t_cmp op_ne (h := ?_)))))
  walk_at "nm"
  refine e_blt call_lenRng ml PySem.boot_len (a_cons (h := e_ty cr_range2 mr bnm_range ?_))
  walk_at "E"
  refine ⟨_, _, rfl, fun q hq => ?_⟩
  have g6 := g4.own (o := .rng h' l') hq
  have j6 := j4.own (o := .rng h' l') hq
  walk_at "E"
  refine ⟨q, _, _, rfl, upd_same, by omega, rfl, _, rfl, ?_⟩
  have el : max (l' - h') 0 = (((l' - h').toNat : Nat) : Int) := by omega
  rw [el]
  refine iff_ (by simp) ?_
  refine b_or1 (t_cmp op_ne (h := e_callKX k1 hr (h := k_cons (e_add (h := ?_)))))
  walk_at "E"
  refine e_pow (h := ?_)
  walk_at "E"
  refine ⟨_, _, rfl, rfl, ⟨by decide, by decide, by decide⟩, _, _, rfl, rfl, ?_⟩
  refine k_cons (e_add (h := ?_))
  walk_at "E"
  refine e_pow (h := ?_)
  walk_at "E"
  refine ⟨_, _, rfl, rfl, ⟨by decide, by decide, by decide⟩, _, _, rfl, rfl, ?_⟩
  have pp : (0 : Int) ≤ 10 ^ (29 : Int).toNat := by decide
  generalize (10 : Int) ^ (29 : Int).toNat = pw at *
  walk_at "E"
  refine ⟨rfl, rfl, _, _, rfl, fun z => absurd z (by omega), fun _ z => absurd z (by omega), fun _ _ => ?_⟩
  walk_at "E"
  refine ⟨rfl, _, rfl, ?_⟩
  have el2 : max (l' + pw - (h' + pw)) 0 = (((l' - h').toNat : Nat) : Int) := by omega
  rw [el2]
  refine iff_ (by simp) (s_nil ?_)
  refine tail t _ _ g6 j6 ?_ ?_
  · rw [upd_ne (ne_of_none e4 hq)]; exact e4
  · rw [upd_ne (ne_of_none et hq), er]; exact et
end
end K34
namespace K34
open PySem L2 Evl Lw
section
variable {P : Program} {w : World} {K : PySem.W.Frag} {mg : Str → Option Value} {base : Heap} {C : Addr}
/-! _law_great_right -/
abbrev N_gr : List Str := ["_law_jug_here", "_law_rooms", "_law_begin", "_law_turns_here", "_law_lots", "_law_window", "_law_page", "_law_turn", "_law_most", "_law_own", "_law_more"]
theorem sc_gr : FnScope N_gr ["_law_jug_here"] (defScope s_gr) := ⟨rfl, rfl, rfl, by decide +kernel, rfl, by decide +kernel, by decide +kernel⟩
def sp_gr : Sp := fun vs H Q _ => ∃ (B : Hp) (d : Addr) (n : Nat), vs = [.ref d] ∧ Jk B H d (n + 50) ∧ ∀ H', Gr (Md d) B H B H' → Jk B H' d n → Q (.bl true) H'
theorem gr_step {r : I2} {st : I2 × I2} {t : Int} (h : InR r st.1) (own more : Int) (ho : own = max (0 - st.1.1) (min t (r.1 - st.1.1))) (hm : more = max (0 - st.1.2) (min (t - own) (r.2 - st.1.2))) :
    ((st.1.1 + own, st.1.2 + more) : I2) = (tlStep r st t).1 ∧ (t < 0 → (tlStep r st t).2 = (st.2.1, st.2.2 + ((t - own - more).natAbs : Int))) ∧ (¬ t < 0 → (tlStep r st t).2 = (st.2.1 + ((t - own - more).natAbs : Int), st.2.2)) := by
  subst hm
  subst ho
  obtain ⟨⟨w, p⟩, ⟨d, u⟩⟩ := st
  obtain ⟨r1, r2⟩ := r
  obtain ⟨a, b, c, e⟩ := h
  simp only at a b c e
  unfold tlStep clipF
  simp only [Prod.mk.injEq]
  refine ⟨⟨?_, ?_⟩, fun h => ⟨?_, ?_⟩, fun h => ⟨?_, ?_⟩⟩ <;> omega
theorem big_lt : (10 : Int) ^ (29 : Int).toNat = 100000000000000000000000000000 := by decide
theorem ok_gr (mr : mg "range" = none) (ms : mg "sorted" = none) (mint : mg "int" = none) (ma : mg "abs" = none) (mtu : mg "tuple" = none) (e0 : Cal P w K mg base "_law_pour" 1 ["_law_jug_here", "_law_many"] sp_pour) (e1 : CalX P w K mg base "turned_by" 5 ["rooms", "scrolls", "turns"] (sp_tb K C)) (e2 : CalX P w K mg base "lost" 5 ["rooms", "scrolls", "turns"] (sp_lo K C)) :
    ∀ f fd, Fun K "_law_great_right" "_law_great_right" s_gr f fd → FnOk P w K mg base CX0 6 f fd ["_law_jug_here"] sp_gr := by
  refine ok_of sc_gr (fun vs H Q E h => by obtain ⟨_, _, _, rfl, _⟩ := h; rfl) (fun f cdv A outer s0 H vs Q E hr h => ?_)
  obtain ⟨B, d, n, rfl, j0, k⟩ := h
  have eP := big_lt
  have e250 : (2 : Nat) ^ 250 = 1809251394333065553493296640760748560207343510400633813116524750123642650624 := by decide
  have bn : ∀ {x : Int}, 0 ≤ x → x ≤ 1000000000000000000000000000000 → x.natAbs < 2 ^ 250 := fun h1 h2 => by rw [e250]; omega
  -- rooms
  refine s_cons (s_set 1 sc_gr.nd (h := e_tup (a_cons (h := e_call e0 (hr.mono (by decide)) (h := ?_)))))
  walk_at "E"
  refine e_pow (h := ?_)
  walk_at "E"
  refine ⟨_, _, rfl, rfl, ⟨by decide, by decide, by decide⟩, ?_⟩
  rw [eP]
  walk_at "E"
  refine pour_k (n := n + 49) j0 (by decide) (bn (by decide) (by decide)) fun r1 H1 a0 a1 g1 j1 => ?_
  refine a_cons (h := e_call e0 (hr.mono (by decide)) (h := ?_))
  refine a_cons (h := ?_)
  walk_at "nm"
  refine a_cons (h := e_ixL (h := e_lst (a_cons (h := e_int (a_cons (h := e_pow (h := ?_)))))))
  walk_at "E"
  refine ⟨_, _, rfl, rfl, ⟨by decide, by decide, by decide⟩, ?_⟩
  rw [eP]
  walk_at "E"
  refine ⟨by show 2 ≤ sizeLine; decide, fun p1 hp1 => ?_⟩
  have g1o := g1.own (o := .lst [.int 10, .int 100000000000000000000000000000]) hp1
  have ep1 : (upd H1 p1 (.lst [.int 10, .int 100000000000000000000000000000])) p1 = some (.lst [.int 10, .int 100000000000000000000000000000]) := upd_same
  have j1o := j1.own (o := .lst [.int 10, .int 100000000000000000000000000000]) hp1
  have ndp : d ≠ p1 := j1.at_.ne hp1
  refine e_call e0 (hr.mono (by decide)) (h := ?_)
  walk_at "E"
  refine pour_k (n := n + 48) j1o (by decide) (by decide) fun c H2 c0 c1 g2 j2 => ?_
  have ep2 := g2.h _ _ (fun z => ndp z.symm) ep1
  have gA := g1o.trans g2
  obtain ⟨m2, hm2, hm3, hm4⟩ : ∃ m2 : Int, ([V.int 10, .int 100000000000000000000000000000])[c.toNat]? = some (.int m2) ∧ 1 ≤ m2 ∧ m2 ≤ 100000000000000000000000000000 := by
    have : c = 0 ∨ c = 1 := by omega
    rcases this with rfl | rfl
    · exact ⟨10, rfl, by decide, by decide⟩
    · exact ⟨_, rfl, by decide, by decide⟩
  refine ⟨p1, _, c, _, rfl, rfl, SqL.of ep2, at_of (by omega : c = (c.toNat : Int)) hm2, a_nil ?_⟩
  refine pour_k (n := n + 47) j2 (by omega) (bn (by omega) (by omega)) fun r2 H3 b0 b1 g3 j3 => ?_
  refine a_nil ⟨by show 2 ≤ sizeLine; decide, fun R hR => ?_⟩
  have gB := (gA.trans g3).new (o := .tup [.int r1, .int r2]) hR
  have jB := j3.new (o := .tup [.int r1, .int r2]) hR
  have eR : (upd B R (.tup [.int r1, .int r2])) R = some (.tup [.int r1, .int r2]) := upd_same
  have B0 : Ex B (upd B R (.tup [.int r1, .int r2])) := gB.b
  have hd0 := j0.b
  generalize upd B R (HO.tup [.int r1, .int r2]) = B1 at *
  generalize upd H3 R (HO.tup [.int r1, .int r2]) = H4 at *
  -- begin
  refine s_cons (s_set 2 sc_gr.nd (h := e_tup (a_cons (h := e_call e0 (hr.mono (by decide)) (h := ?_)))))
  walk_at "E"
  refine e_add (h := e_ixT (h := ?_))
  walk_at "E"
  refine ⟨_, _, _, _, rfl, rfl, SqT.of (gB.k _ _ eR), rfl, ?_⟩
  walk_at "E"
  walk_at "ii"
  walk_at "E"
  refine pour_k (n := n + 46) jB (by omega) (bn (by omega) (by omega)) fun s1 H5 u0 u1 g5 j5 => ?_
  refine a_cons (h := e_call e0 (hr.mono (by decide)) (h := ?_))
  walk_at "E"
  refine e_add (h := e_ixT (h := ?_))
  walk_at "E"
  refine ⟨_, _, _, _, rfl, rfl, SqT.of (g5.k _ _ eR), rfl, ?_⟩
  walk_at "E"
  walk_at "ii"
  walk_at "E"
  refine pour_k (n := n + 45) j5 (by omega) (bn (by omega) (by omega)) fun s2 H6 v0 v1 g6 j6 => ?_
  refine a_nil ⟨by show 2 ≤ sizeLine; decide, fun S hS => ?_⟩
  have gC := ((gB.trans g5).trans g6).new (o := .tup [.int s1, .int s2]) hS
  have jC := j6.new (o := .tup [.int s1, .int s2]) hS
  have eS : (upd B1 S (.tup [.int s1, .int s2])) S = some (.tup [.int s1, .int s2]) := upd_same
  have hC1 : Ex B1 (upd B1 S (.tup [.int s1, .int s2])) := Ex.new (none_of_ex (g5.trans g6).k hS)
  have eR2 := hC1 _ _ eR
  generalize upd B1 S (HO.tup [.int s1, .int s2]) = B2 at *
  generalize upd H6 S (HO.tup [.int s1, .int s2]) = H7 at *
  have hin : InR (r1, r2) (s1, s2) := ⟨u0, by simp only; omega, v0, by simp only; omega⟩
  -- turns, lots
  refine s_cons (s_par 3 4 sc_gr.nd (h := a_cons (h := e_lst (a_nil ⟨Nat.zero_le _, fun T hT => ?_⟩))))
  have gD := gC.own (o := .lst []) hT
  have jD := jC.own (o := .lst []) hT
  have eT : (upd H7 T (.lst [])) T = some (.lst (([] : List Int).map V.int)) := upd_same
  refine a_cons (h := e_lst ?_)
  walk_at "E"
  refine ⟨by show 2 ≤ sizeLine; decide, fun L hL => ?_⟩
  have gE := gD.own (o := .lst [.int 0, .int 0]) hL
  have jE := jD.own (o := .lst [.int 0, .int 0]) hL
  have nTL : T ≠ L := ne_of_none eT hL
  have eT2 : (upd (upd H7 T (.lst [])) L (.lst [.int 0, .int 0])) T = some (.lst (([] : List Int).map V.int)) := by rw [upd_ne nTL]; exact eT
  have eL : (upd (upd H7 T (.lst [])) L (.lst [.int 0, .int 0])) L = some (.lst [.int 0, .int 0]) := upd_same
  have bT : B2 T = none := none_of_ex gC.k hT
  have hT0 : H T = none := gC.free hT
  have bL : B2 L = none := none_of_ex gD.k hL
  have hL0 : H L = none := gD.free hL
  generalize upd (upd H7 T (HO.lst [])) L (HO.lst [.int 0, .int 0]) = H8 at *
  refine a_nil ⟨_, _, rfl, ?_⟩
  have ndT : d ≠ T := fun z => j0.at_.nn (z ▸ hT0)
  have ndL : d ≠ L := fun z => j0.at_.nn (z ▸ hL0)
  refine s_cons (s_asg (h := ?_))
  walk_at "E"
  refine g_tup (SqT.of (gE.k _ _ eS)) rfl (h := gs_cons (h := g_name 5 sc_gr.nd (q := gs_cons (h := g_name 6 sc_gr.nd (q := gs_nil ?_)))))
  -- the turns are drawn
  refine s_cons (s_for (h := i_rng1 mr (h := e_call e0 (hr.mono (by decide)) (h := ?_))))
  walk_at "E"
  refine pour_k (n := n + 44) jE (by decide) (by decide) fun cnt H9 w0 w1 g9 j9 => ⟨cnt, rfl, by omega, by omega, ?_⟩
  have eT9 := g9.h _ _ (fun z => ndT z.symm) eT2
  have eL9 := g9.h _ _ (fun z => ndL z.symm) eL
  have gF := gE.trans g9
  refine for_it walk_r0 (fun i σ H' => ∃ (ts : List Int) (u1 u2 : Option V), σ = [some (.ref d), some (.ref R), some (.ref S), some (.ref T), some (.ref L), some (.int s1), some (.int s2), u1, u2, none, none] ∧ Gr (Md d) B H B2 H' ∧ Jk B2 H' d (n + 44 - 2 * i) ∧ H' T = some (.lst (ts.map V.int)) ∧ ts.length = i ∧ H' L = some (.lst [.int 0, .int 0]))
    ⟨[], none, none, rfl, gF, j9, eT9, rfl, eL9⟩ (fun _ _ _ _ _ => trivial) ?_ ?_
  · rintro i x σ H' H'' hi ⟨ts, q1, q2, rfl, g, j, et, hl, el⟩ ⟨rfl, rfl⟩
    have hi8 : i < 8 := by omega
    refine g_name 7 sc_gr.nd (q := ?_)
    refine s_cons (s_set 8 sc_gr.nd (h := e_ixL (h := e_lst (a_cons (h := e_int (a_cons (h := e_pow (h := ?_))))))))
    walk_at "E"
    refine ⟨_, _, rfl, rfl, ⟨by decide, by decide, by decide⟩, ?_⟩
    rw [eP]
    walk_at "E"
    refine ⟨by show 2 ≤ sizeLine; decide, fun p3 hp3 => ?_⟩
    have gx := g.own (o := .lst [.int 10, .int 100000000000000000000000000000]) hp3
    have jx := j.own (o := .lst [.int 10, .int 100000000000000000000000000000]) hp3
    have ex : (upd H'' p3 (.lst [.int 10, .int 100000000000000000000000000000])) p3 = some (.lst [.int 10, .int 100000000000000000000000000000]) := upd_same
    have ndx : d ≠ p3 := j.at_.ne hp3
    have etx : (upd H'' p3 (.lst [.int 10, .int 100000000000000000000000000000])) T = some (.lst (ts.map V.int)) := by rw [upd_ne (ne_of_none et hp3)]; exact et
    have elx : (upd H'' p3 (.lst [.int 10, .int 100000000000000000000000000000])) L = some (.lst [.int 0, .int 0]) := by rw [upd_ne (ne_of_none el hp3)]; exact el
    generalize upd H'' p3 (HO.lst [.int 10, .int 100000000000000000000000000000]) = Hx at *
    refine e_call e0 (hr.mono (by decide)) (h := ?_)
    walk_at "E"
    refine pour_k (n := n + 43 - 2 * i) (by rw [show n + 43 - 2 * i + 1 = n + 44 - 2 * i by omega]; exact jx) (by decide) (by decide) fun c H3 c0 c1 gy jy => ?_
    have ey := gy.h _ _ (fun z => ndx z.symm) ex
    have ety := gy.h _ _ (fun z => ndT z.symm) etx
    have ely := gy.h _ _ (fun z => ndL z.symm) elx
    obtain ⟨m5, hm5, hm6, hm7⟩ : ∃ m2 : Int, ([V.int 10, .int 100000000000000000000000000000])[c.toNat]? = some (.int m2) ∧ 1 ≤ m2 ∧ m2 ≤ 100000000000000000000000000000 := by
      have : c = 0 ∨ c = 1 := by omega
      rcases this with rfl | rfl
      · exact ⟨10, rfl, by decide, by decide⟩
      · exact ⟨_, rfl, by decide, by decide⟩
    refine ⟨p3, _, c, _, rfl, rfl, SqL.of ey, at_of (by omega : c = (c.toNat : Int)) hm5, ?_⟩
    refine s_one (s_expr (h := e_bm PySem.F.plainAttrs_list PySem.F.slot_list_append PySem.F.type_list_append mt_append (h := ?_)))
    walk_at "E"
    refine ⟨.inl ⟨rfl, _, SqL.of ety⟩, a_cons (h := e_sub (h := e_call e0 (hr.mono (by decide)) (h := ?_)))⟩
    walk_at "E"
    refine e_add (h := e_bin op_mul (h := ?_))
    walk_at "E"
    refine ⟨_, _, rfl, rfl, .inl ⟨by decide, by decide⟩, ?_⟩
    walk_at "E"
    walk_at "ii"
    walk_at "E"
    refine pour_k (n := n + 42 - 2 * i) (by rw [show n + 42 - 2 * i + 1 = n + 43 - 2 * i by omega]; exact jy) (by omega) (bn (by omega) (by omega)) fun tv H5 t0 t1 gz jz => ?_
    have etz := gz.h _ _ (fun z => ndT z.symm) ety
    have elz := gz.h _ _ (fun z => ndL z.symm) ely
    walk_at "E"
    refine ⟨_, _, rfl, rfl, ?_⟩
    walk_at "E"
    refine ⟨_, _, _, rfl, rfl, etz, Nat.lt_of_le_of_lt (by rw [List.length_map]; omega : _ ≤ 8) (by decide), ?_⟩
    have gW := (gx.trans gy).trans gz
    refine ⟨ts ++ [tv - m5], _, _, rfl, gW.mut (.inr hT0) bT, ⟨(gW.mut (o := .lst (ts.map V.int ++ [.int (tv - m5)])) (.inr hT0) bT).k, jz.b, ?_⟩, by rw [upd_same, List.map_append]; rfl, by rw [List.length_append, hl]; rfl, by rw [upd_ne nTL.symm]; exact elz⟩
    obtain ⟨x, y, z, e, q⟩ := (jz.at_.le (show n + 44 - 2 * (i + 1) ≤ n + 42 - 2 * i by omega)).ex
    exact ⟨x, y, z, by rw [upd_ne ndT]; exact e, q⟩
  rintro σ Ha ⟨ts, q1, q2, rfl, ga, ja, eta, hta, ela⟩
  -- the turns stay from here on
  have gG := ga.learn (o := .lst (ts.map V.int)) hT0 bT eta
  have hB3 : Ex B2 (upd B2 T (.lst (ts.map V.int))) := Ex.new bT
  have eT3 : (upd B2 T (.lst (ts.map V.int))) T = some (.lst (ts.map V.int)) := upd_same
  have bL3 : (upd B2 T (.lst (ts.map V.int))) L = none := by rw [upd_ne nTL.symm]; exact bL
  have jG : Jk (upd B2 T (.lst (ts.map V.int))) Ha d n := ⟨gG.k, by rw [upd_ne ndT]; exact ja.b, ja.at_.le (by omega)⟩
  have eR3 := hB3 _ _ eR2
  have eS3 := hB3 _ _ eS
  generalize upd B2 T (HO.lst (ts.map V.int)) = B3 at *
  refine s_cons (s_for (h := i_list ?_))
  walk_at "E"
  refine ⟨_, rfl, ⟨_, SqL.of (gG.k _ _ eT3)⟩, for_it walk_list (fun i σ H' => ∃ (st : I2 × I2) (u1 u2 u3 : Option V), st = tlF (r1, r2) (s1, s2) (ts.take i) ∧ σ = [some (.ref d), some (.ref R), some (.ref S), some (.ref T), some (.ref L), some (.int st.1.1), some (.int st.1.2), u1, q2, u2, u3] ∧ Gr (Md d) B H B3 H' ∧ Jk B3 H' d n ∧ H' L = some (.lst [.int st.2.1, .int st.2.2]))
    ⟨tlF (r1, r2) (s1, s2) (ts.take 0), q1, none, none, rfl, rfl, gG, jG, ela⟩ (fun i σ H' _ ⟨_, _, _, _, _, _, g, _⟩ => SqL.of (g.k _ _ eT3)) ?_ ?_⟩
  · rintro i x σ H' H'' hi ⟨st, y1, y2, y3, est, rfl, g, j, el⟩ ⟨rfl, hx⟩
    rw [List.getElem?_map] at hx
    cases et : ts[i]? with
    | none => rw [et] at hx; cases hx
    | some t =>
      rw [et] at hx
      cases hx
      have nx := tl_next (r := (r1, r2)) (s := (s1, s2)) et
      rw [← est] at nx
      have hst : InR (r1, r2) st.1 := est ▸ tlF_in hin
      obtain ⟨z1, z2, z3, z4⟩ := id hst
      simp only at z1 z2 z3 z4
      obtain ⟨own, hown⟩ : ∃ own, own = max (0 - st.1.1) (min t (r1 - st.1.1)) := ⟨_, rfl⟩
      obtain ⟨more, hmore⟩ : ∃ more, more = max (0 - st.1.2) (min (t - own) (r2 - st.1.2)) := ⟨_, rfl⟩
      obtain ⟨f1, f2, f3⟩ := gr_step (t := t) hst own more hown hmore
      refine g_name 7 sc_gr.nd (q := ?_)
      -- own
      refine s_cons (s_set 9 sc_gr.nd (h := e_ixL (h := e_blt cr_sorted ms (by decide +kernel) (a_cons (h := e_lst (a_cons (h := e_sub (h := ?_))))))))
      walk_at "E"
      walk_at "ii"
      refine a_cons (h := ?_)
      walk_at "nm"
      refine a_cons (h := e_sub (h := e_ixT (h := ?_)))
      walk_at "E"
      refine ⟨_, _, _, _, rfl, rfl, SqT.of (g.k _ _ eR3), rfl, ?_⟩
      walk_at "E"
      walk_at "ii"
      walk_at "E"
      refine ⟨by show 3 ≤ sizeLine; decide, fun p5 hp5 => ?_⟩
      have g5 := g.own (o := .lst [.int (0 - st.1.1), .int t, .int (r1 - st.1.1)]) hp5
      have j5 := j.own (o := .lst [.int (0 - st.1.1), .int t, .int (r1 - st.1.1)]) hp5
      walk_at "E"
      refine ⟨p5, [0 - st.1.1, t, r1 - st.1.1], rfl, SqL.of upd_same, (by show 3 < 64; decide), fun ns p6 hpm hsr hp6 => ?_⟩
      have g6 := g5.own (o := .lst (ns.map V.int)) hp6
      have j6 := j5.own (o := .lst (ns.map V.int)) hp6
      have e6 : (upd (upd H'' p5 (.lst [.int (0 - st.1.1), .int t, .int (r1 - st.1.1)])) p6 (.lst (ns.map V.int))) L = some (.lst [.int st.2.1, .int st.2.2]) := by
        rw [upd_ne (ne_of_none (by rw [upd_ne (ne_of_none el hp5)]; exact el) hp6), upd_ne (ne_of_none el hp5)]; exact el
      have s6 : (upd (upd H'' p5 (.lst [.int (0 - st.1.1), .int t, .int (r1 - st.1.1)])) p6 (.lst (ns.map V.int))) p6 = some (.lst (ns.map V.int)) := upd_same
      generalize upd (upd H'' p5 (HO.lst [.int (0 - st.1.1), .int t, .int (r1 - st.1.1)])) p6 (HO.lst (ns.map V.int)) = H6 at *
      walk_at "E"
      refine ⟨p6, _, _, _, rfl, rfl, SqL.of s6, med_at (by omega) hpm hsr, ?_⟩
      rw [← hown]
      -- more
      refine s_cons (s_set 10 sc_gr.nd (h := e_ixL (h := e_blt cr_sorted ms (by decide +kernel) (a_cons (h := e_lst (a_cons (h := e_sub (h := ?_))))))))
      walk_at "E"
      walk_at "ii"
      refine a_cons (h := e_sub (h := ?_))
      walk_at "E"
      walk_at "ii"
      refine a_cons (h := e_sub (h := e_ixT (h := ?_)))
      walk_at "E"
      refine ⟨_, _, _, _, rfl, rfl, SqT.of (g6.k _ _ eR3), rfl, ?_⟩
      walk_at "E"
      walk_at "ii"
      walk_at "E"
      refine ⟨by show 3 ≤ sizeLine; decide, fun p7 hp7 => ?_⟩
      have g7 := g6.own (o := .lst [.int (0 - st.1.2), .int (t - own), .int (r2 - st.1.2)]) hp7
      have j7 := j6.own (o := .lst [.int (0 - st.1.2), .int (t - own), .int (r2 - st.1.2)]) hp7
      walk_at "E"
      refine ⟨p7, [0 - st.1.2, t - own, r2 - st.1.2], rfl, SqL.of upd_same, (by show 3 < 64; decide), fun ns2 p8 hpm2 hsr2 hp8 => ?_⟩
      have g8 := g7.own (o := .lst (ns2.map V.int)) hp8
      have j8 := j7.own (o := .lst (ns2.map V.int)) hp8
      have e8 : (upd (upd H6 p7 (.lst [.int (0 - st.1.2), .int (t - own), .int (r2 - st.1.2)])) p8 (.lst (ns2.map V.int))) L = some (.lst [.int st.2.1, .int st.2.2]) := by
        rw [upd_ne (ne_of_none (by rw [upd_ne (ne_of_none e6 hp7)]; exact e6) hp8), upd_ne (ne_of_none e6 hp7)]; exact e6
      have s8 : (upd (upd H6 p7 (.lst [.int (0 - st.1.2), .int (t - own), .int (r2 - st.1.2)])) p8 (.lst (ns2.map V.int))) p8 = some (.lst (ns2.map V.int)) := upd_same
      generalize upd (upd H6 p7 (HO.lst [.int (0 - st.1.2), .int (t - own), .int (r2 - st.1.2)])) p8 (HO.lst (ns2.map V.int)) = H8 at *
      walk_at "E"
      refine ⟨p8, _, _, _, rfl, rfl, SqL.of s8, med_at (by omega) hpm2 hsr2, ?_⟩
      rw [← hmore]
      -- window, page
      refine s_cons (s_par 5 6 sc_gr.nd (h := a_cons (h := e_add (h := ?_))))
      walk_at "E"
      walk_at "ii"
      refine a_cons (h := e_add (h := ?_))
      walk_at "E"
      walk_at "ii"
      walk_at "E"
      refine ⟨_, _, rfl, ?_⟩
      -- lots
      have fin : ∀ (dd uu : Int) (Hz : Hp), (dd, uu) = (tlStep (r1, r2) st t).2 → Hz = upd H8 L (.lst [.int dd, .int uu]) → ∃ (st' : I2 × I2) (u1 u2 u3 : Option V), st' = tlF (r1, r2) (s1, s2) (ts.take (i + 1)) ∧ [some (V.ref d), some (.ref R), some (.ref S), some (.ref T), some (.ref L), some (.int (st.1.1 + own)), some (.int (st.1.2 + more)), some (.int t), q2, some (.int own), some (.int more)] = [some (.ref d), some (.ref R), some (.ref S), some (.ref T), some (.ref L), some (.int st'.1.1), some (.int st'.1.2), u1, q2, u2, u3] ∧ Gr (Md d) B H B3 Hz ∧ Jk B3 Hz d n ∧ Hz L = some (.lst [.int st'.2.1, .int st'.2.2]) := by
        rintro dd uu Hz e rfl
        refine ⟨((st.1.1 + own, st.1.2 + more), (dd, uu)), _, _, _, ?_, rfl, g8.mut (.inr hL0) bL3, ⟨(g8.mut (o := .lst [.int dd, .int uu]) (.inr hL0) bL3).k, j8.b, ?_⟩, upd_same⟩
        · rw [nx, f1, e]
        · obtain ⟨x, y, z, e, q⟩ := j8.at_.ex
          exact ⟨x, y, z, by rw [upd_ne ndL]; exact e, q⟩
      by_cases ht : t < 0
      · have f2 := f2 ht
        refine s_one (s_sub (h := e_add (h := e_ixL (h := ?_))))
        walk_at "E"
        refine e_ty call_int1 mint bnm_int (a_cons (h := e_cmp op_lt (h := ?_)))
        walk_at "E"
        refine ⟨_, _, rfl, rfl, ?_⟩
        walk_at "E"
        refine .inr ⟨_, rfl, ?_⟩
        refine ⟨L, _, _, .int st.2.2, rfl, rfl, SqL.of e8, (by rw [decide_eq_true ht]; rfl), ?_⟩
        refine e_blt call_abs ma (by decide +kernel) (a_cons (h := e_sub (h := e_sub (h := ?_))))
        walk_at "E"
        walk_at "ii"
        walk_at "E"
        walk_at "ii"
        walk_at "E"
        refine ⟨_, rfl, ?_⟩
        rw [py_abs]
        walk_at "ii"
        walk_at "E"
        refine e_ty call_int1 mint bnm_int (a_cons (h := e_cmp op_lt (h := ?_)))
        walk_at "E"
        refine ⟨_, _, rfl, rfl, ?_⟩
        walk_at "E"
        refine .inr ⟨_, rfl, ?_⟩
        exact ⟨_, _, _, 1, rfl, rfl, e8, (by rw [decide_eq_true ht]; rfl), fin _ _ _ f2.symm rfl⟩
      · have f3 := f3 ht
        refine s_one (s_sub (h := e_add (h := e_ixL (h := ?_))))
        walk_at "E"
        refine e_ty call_int1 mint bnm_int (a_cons (h := e_cmp op_lt (h := ?_)))
        walk_at "E"
        refine ⟨_, _, rfl, rfl, ?_⟩
        walk_at "E"
        refine .inr ⟨_, rfl, ?_⟩
        refine ⟨L, _, _, .int st.2.1, rfl, rfl, SqL.of e8, (by rw [decide_eq_false ht]; rfl), ?_⟩
        refine e_blt call_abs ma (by decide +kernel) (a_cons (h := e_sub (h := e_sub (h := ?_))))
        walk_at "E"
        walk_at "ii"
        walk_at "E"
        walk_at "ii"
        walk_at "E"
        refine ⟨_, rfl, ?_⟩
        rw [py_abs]
        walk_at "ii"
        walk_at "E"
        refine e_ty call_int1 mint bnm_int (a_cons (h := e_cmp op_lt (h := ?_)))
        walk_at "E"
        refine ⟨_, _, rfl, rfl, ?_⟩
        walk_at "E"
        refine .inr ⟨_, rfl, ?_⟩
        exact ⟨_, _, _, 0, rfl, rfl, e8, (by rw [decide_eq_false ht]; rfl), fin _ _ _ f3.symm rfl⟩
  rintro σ Hb ⟨st, y1, y2, y3, est, rfl, gb, jb, elb⟩
  have est2 : st = tlF (r1, r2) (s1, s2) ts := by rw [est, List.length_map, List.take_length]
  have hdn := due_none hin
  have dR : Dt K B3 (.ref R) ((r1, r2) : I2) := dtI2 (SqT.of eR3)
  have dS : Dt K B3 (.ref S) ((s1, s2) : I2) := dtI2 (SqT.of eS3)
  have dT : Dt K B3 (.ref T) ts := dtL (SqL.of eT3) das_ints
  refine s_one (s_ret (e_and (e_cmp (op_eqD hr.units) (h := e_callX e1 takes0 hr (h := ?_)))))
  walk_at "E"
  refine ⟨B3, _, _, _, (r1, r2), (s1, s2), ts, rfl, gb.k, dR, dS, dT, fun _ va Bc Hc gc da => ?_, fun n hn => by rw [hdn] at hn; cases hn⟩
  rw [← est2] at da
  refine e_tup ?_
  walk_at "E"
  refine ⟨by show 2 ≤ sizeLine; decide, fun pd hpd => ?_⟩
  have gd := gc.own (o := .tup [.int st.1.1, .int st.1.2]) hpd
  refine eq_dat (B := upd Hc pd _) (x := st.1) (y := st.1) ((da.mono gc.k).mono (Ex.new hpd)) (dtI2 (SqT.of upd_same)) (Ex.refl _) (by decide) ⟨_, rfl, ifd (fun _ => ?_) fun z => absurd rfl z⟩
  have eLd := gd.ex _ _ elb
  generalize upd Hc pd (HO.tup [.int st.1.1, .int st.1.2]) = Hd at *
  refine e_one (e_cmp (op_eqD hr.units) (h := e_callX e2 takes0 hr (h := ?_)))
  walk_at "E"
  refine ⟨B3, _, _, _, (r1, r2), (s1, s2), ts, rfl, gb.k.trans gd.ex, dR, dS, dT, fun _ vb Be He ge db => ?_, fun n hn => by rw [hdn] at hn; cases hn⟩
  rw [← est2] at db
  refine e_ty call_tuple_of mtu bnm_tuple ?_
  walk_at "E"
  refine ⟨_, _, rfl, .inl ⟨SqL.of (ge.ex _ _ eLd), fun pf hpf => ?_⟩⟩
  have gg := ge.own (o := .tup [.int st.2.1, .int st.2.2]) hpf
  refine eq_dat (B := upd He pf _) (x := st.2) (y := st.2) ((db.mono ge.k).mono (Ex.new hpf)) (dtI2 (SqT.of upd_same)) (Ex.refl _) (by decide) ?_
  rw [show decide (st.2 = st.2) = true from decide_eq_true rfl]
  have exx := gd.ex.trans gg.ex
  have gL := gr_ex gb.k exx
  have gM := gb.trans gL.up
  exact k _ (gM.base (Ex.refl B)) ⟨(gM.base (Ex.refl B)).k, hd0, jb.at_.exx exx⟩
end
end K34
namespace K34
open PySem L2 Evl Lw
section
variable {P : Program} {w : World} {K : PySem.W.Frag} {mg : Str → Option Value} {base : Heap} {C : Addr}
theorem ref_due {wd : Nat} (hw : wd < 3) (r s : I2) (z : I2) (hz : z = if wd < 2 then s else (0, 0)) : refF (wd : Int) r s = dueF r z := by
  subst hz
  unfold refF
  by_cases h : wd < 2
  · rw [if_pos h, if_pos (by omega)]
  · rw [if_neg h, if_neg (by omega)]
    unfold dueR dueF
    by_cases h1 : r.1 < 0
    · rw [if_pos h1, if_pos h1]
    · rw [if_neg h1, if_neg h1]
      by_cases h2 : r.2 < 0
      · rw [if_pos h2, if_pos h2]
      · rw [if_neg h2, if_neg h2, if_neg (by simp only; omega), if_neg (by simp only; omega)]
/-! law -/
abbrev N_law : List Str := ["_law_script", "_law_k", "_law_jug_here", "_law_width", "_law_rooms", "_law_scrolls", "_law_turns_here", "_law_odd", "_law_beyond", "_law_word", "_law_due_here"]
theorem sc_law : FnScope N_law ["_law_script"] (defScope s_law) := ⟨rfl, rfl, rfl, by decide +kernel, rfl, by decide +kernel, by decide +kernel⟩
def sp_law (K : PySem.W.Frag) : Sp := fun vs H Q _ => ∃ (a : Addr) (ns : List Int), vs = [.ref a] ∧ SqL K H a (ns.map V.int) ∧ ns.length ≤ 63 ∧ ∀ H', Q (.bl true) H'
structure LC (P : Program) (w : World) (K : PySem.W.Frag) (mg : Str → Option Value) (base : Heap) (C : Addr) : Prop where
  mr : mg "range" = none
  ml : mg "len" = none
  mmin : mg "min" = none
  mmax : mg "max" = none
  mint : mg "int" = none
  ej : Cal P w K mg base "_law_jug" 1 ["_law_script", "_law_k"] (sp_jug K)
  e0 : Cal P w K mg base "_law_pour" 1 ["_law_jug_here", "_law_many"] sp_pour
  et : Cal P w K mg base "_law_turns" 2 ["_law_jug_here", "_law_most", "_law_size"] (sp_turns K)
  ed : Cal P w K mg base "_law_due" 1 ["_law_rooms", "_law_scrolls"] (sp_due K)
  er : Cal P w K mg base "_law_refused" 6 ["_law_word", "_law_rooms", "_law_scrolls", "_law_turns_here"] (sp_ref K)
  e1 : Cal P w K mg base "_law_right" 6 ["_law_rooms", "_law_scrolls", "_law_turns_here", "_law_width"] (sp_ri K)
  e2 : Cal P w K mg base "_law_clipped_right" 6 ["_law_rooms", "_law_scrolls", "_law_width"] (sp_cr K)
  e3 : Cal P w K mg base "_law_room_right" 5 ["_law_jug_here"] sp_rr
  e4 : Cal P w K mg base "_law_great_right" 6 ["_law_jug_here"] sp_gr
theorem ok_law (S : LC P w K mg base C) : ∀ f fd, Fun K "law" "law" s_law f fd → FnOk P w K mg base CX0 7 f fd ["_law_script"] (sp_law K) := by
  refine ok_of sc_law (fun vs H Q E h => by obtain ⟨_, _, rfl, _⟩ := h; rfl) (fun f cdv A outer s0 H vs Q E hr h => ?_)
  obtain ⟨a, ns, rfl, hL, hn, q⟩ := h
  refine s_cons (s_for (h := i_rng1 S.mr (h := e_blt (call_max2 rfl) S.mmax (by decide +kernel) (a_cons (h := e_int (a_cons (h := e_blt (call_min2 rfl) S.mmin (by decide +kernel) (a_cons (h := e_int (a_cons (h := e_blt call_len_seq S.ml PySem.boot_len ?_)))))))))))
  walk_at "E"
  refine ⟨_, _, rfl, .inl hL, ?_⟩
  walk_at "E"
  rw [List.length_map]
  refine ⟨_, _, rfl, ?_⟩
  walk_at "E"
  refine ⟨_, _, rfl, ?_⟩
  rw [py_max, py_min]
  obtain ⟨m, hm⟩ : ∃ m, m = max 1 (min 4 ((ns.length : Nat) : Int)) := ⟨_, rfl⟩
  rw [← hm]
  refine ⟨m, rfl, by omega, by omega, ?_⟩
  refine for_it walk_r0 (fun i σ H' => (∃ u1 u2 u3 u4 u5 u6 u7 u8 u9 u10, σ = [some (.ref a), u1, u2, u3, u4, u5, u6, u7, u8, u9, u10]) ∧ Ex H H') ⟨⟨none, none, none, none, none, none, none, none, none, none, rfl⟩, Ex.refl H⟩ (fun _ _ _ _ _ => trivial) ?_ ?_
  rotate_left
  · rintro σ H' ⟨⟨u1, u2, u3, u4, u5, u6, u7, u8, u9, u10, rfl⟩, ex⟩
    exact s_one (s_ret (e_bl (q H')))
  rintro i0 x σ H' B hi ⟨⟨u1, u2, u3, u4, u5, u6, u7, u8, u9, u10, rfl⟩, ex⟩ ⟨rfl, rfl⟩
  refine g_name 1 sc_law.nd (q := ?_)
  refine s_cons (s_set 2 sc_law.nd (h := e_call S.ej (hr.mono (by decide)) (h := ?_)))
  walk_at "E"
  refine ⟨a, ns, i0, rfl, ex_l ex hL, by omega, fun d x y z hd0 hj => ?_⟩
  have j0 : Jk B (upd B d (dk x y z)) d 900000 := ⟨Ex.new hd0, hd0, hj⟩
  generalize upd B d (dk x y z) = H0 at *
  have g0 : Gr (Md d) B H0 B H0 := Gr.refl j0.k
  have eP : (10 : Int) ^ (28 : Int).toNat = 10000000000000000000000000000 := by decide
  have e250 : (2 : Nat) ^ 250 = 1809251394333065553493296640760748560207343510400633813116524750123642650624 := by decide
  have bn : ∀ {x : Int}, 0 ≤ x → x ≤ 1000000000000000000000000000000 → x.natAbs < 2 ^ 250 := fun h1 h2 => by rw [e250]; omega
  -- width
  refine s_cons (s_set 3 sc_law.nd (h := e_ixL (h := e_lst (a_cons (h := e_int (a_cons (h := e_add (h := ?_))))))))
  walk_at "E"
  refine e_call S.e0 (hr.mono (by decide)) (h := ?_)
  walk_at "E"
  refine pour_k (n := 899999) j0 (by decide) (by decide) fun r1 H1 a0 a1 g1 j1 => ?_
  walk_at "ii"
  refine a_cons (h := e_add (h := ?_))
  walk_at "E"
  refine e_call S.e0 (hr.mono (by decide)) (h := ?_)
  walk_at "E"
  refine e_pow (h := ?_)
  walk_at "E"
  refine ⟨_, _, rfl, rfl, ⟨by decide, by decide, by decide⟩, ?_⟩
  rw [eP]
  walk_at "E"
  refine pour_k (n := 899998) j1 (by decide) (bn (by decide) (by decide)) fun r2 H2 b0 b1 g2 j2 => ?_
  walk_at "ii"
  walk_at "E"
  refine ⟨by show 3 ≤ sizeLine; decide, fun p1 hp1 => ?_⟩
  have gA := ((g0.trans g1).trans g2).own (o := .lst [.int 1, .int (2 + r1), .int (1 + r2)]) hp1
  have jA := j2.own (o := .lst [.int 1, .int (2 + r1), .int (1 + r2)]) hp1
  have eA : (upd H2 p1 (.lst [.int 1, .int (2 + r1), .int (1 + r2)])) p1 = some (.lst [.int 1, .int (2 + r1), .int (1 + r2)]) := upd_same
  have nA : d ≠ p1 := j2.at_.ne hp1
  refine e_call S.e0 (hr.mono (by decide)) (h := ?_)
  walk_at "E"
  refine pour_k (n := 899997) jA (by decide) (by decide) fun c H3 c0 c1 g3 j3 => ?_
  have eA3 := g3.h _ _ (fun z => nA z.symm) eA
  have gB := gA.trans g3
  obtain ⟨W, hW1, hW2⟩ : ∃ W : Int, ([V.int 1, .int (2 + r1), .int (1 + r2)])[c.toNat]? = some (.int W) ∧ 1 ≤ W := by
    have : c = 0 ∨ c = 1 ∨ c = 2 := by omega
    rcases this with rfl | rfl | rfl
    · exact ⟨1, rfl, by decide⟩
    · exact ⟨_, rfl, by omega⟩
    · exact ⟨_, rfl, by omega⟩
  refine ⟨p1, _, c, _, rfl, rfl, SqL.of eA3, at_of (by omega : c = (c.toNat : Int)) hW1, ?_⟩
  -- rooms
  refine s_cons (s_set 4 sc_law.nd (h := e_tup (a_cons (h := e_call S.e0 (hr.mono (by decide)) (h := ?_)))))
  walk_at "E"
  refine pour_k (n := 899996) j3 (by decide) (by decide) fun x1 H4 d0 d1 g4 j4 => ?_
  refine a_cons (h := e_call S.e0 (hr.mono (by decide)) (h := ?_))
  walk_at "E"
  refine pour_k (n := 899995) j4 (by decide) (by decide) fun x2 H5 f0 f1 g5 j5 => ?_
  refine a_nil ⟨by show 2 ≤ sizeLine; decide, fun R hR => ?_⟩
  have gC := ((gB.trans g4).trans g5).new (o := .tup [.int x1, .int x2]) hR
  have jC := j5.new (o := .tup [.int x1, .int x2]) hR
  have eR : (upd B R (.tup [.int x1, .int x2])) R = some (.tup [.int x1, .int x2]) := upd_same
  have hB1 : Ex B (upd B R (.tup [.int x1, .int x2])) := gC.b
  generalize upd B R (HO.tup [.int x1, .int x2]) = B1 at *
  generalize upd H5 R (HO.tup [.int x1, .int x2]) = H6 at *
  -- scrolls
  refine s_cons (s_set 5 sc_law.nd (h := e_tup (a_cons (h := e_call S.e0 (hr.mono (by decide)) (h := ?_)))))
  walk_at "E"
  refine e_add (h := e_ixT (h := ?_))
  walk_at "E"
  refine ⟨_, _, _, _, rfl, rfl, SqT.of (gC.k _ _ eR), rfl, ?_⟩
  walk_at "E"
  walk_at "ii"
  walk_at "E"
  refine pour_k (n := 899994) jC (by omega) (bn (by omega) (by omega)) fun y1 H7 h0 h1 g7 j7 => ?_
  refine a_cons (h := e_call S.e0 (hr.mono (by decide)) (h := ?_))
  walk_at "E"
  refine e_add (h := e_ixT (h := ?_))
  walk_at "E"
  refine ⟨_, _, _, _, rfl, rfl, SqT.of (g7.k _ _ eR), rfl, ?_⟩
  walk_at "E"
  walk_at "ii"
  walk_at "E"
  refine pour_k (n := 899993) j7 (by omega) (bn (by omega) (by omega)) fun y2 H8 k0 k1 g8 j8 => ?_
  refine a_nil ⟨by show 2 ≤ sizeLine; decide, fun T hT => ?_⟩
  have gD := ((gC.trans g7).trans g8).new (o := .tup [.int y1, .int y2]) hT
  have jD := j8.new (o := .tup [.int y1, .int y2]) hT
  have eT : (upd B1 T (.tup [.int y1, .int y2])) T = some (.tup [.int y1, .int y2]) := upd_same
  have hB2 : Ex B1 (upd B1 T (.tup [.int y1, .int y2])) := Ex.new (none_of_ex (g7.trans g8).k hT)
  have eR2 := hB2 _ _ eR
  generalize upd B1 T (HO.tup [.int y1, .int y2]) = B2 at *
  generalize upd H8 T (HO.tup [.int y1, .int y2]) = H9 at *
  -- turns
  refine s_cons (s_set 6 sc_law.nd (h := e_call S.et (hr.mono (by decide)) (h := ?_)))
  walk_at "E"
  refine ⟨B2, d, 8, 6, 899000, rfl, jD.le (by decide), by decide, by decide, by decide, by decide, fun tv ts B3 H10 g10 j10 dts hlen hts => ?_⟩
  have gE := gD.trans g10
  have eR3 := g10.b _ _ eR2
  have eT3 := g10.b _ _ eT
  -- odd
  refine s_cons (s_set 7 sc_law.nd (h := e_tup (a_cons (h := e_sub (h := e_ixT (h := ?_))))))
  walk_at "E"
  refine ⟨_, _, _, _, rfl, rfl, SqT.of (gE.k _ _ eR3), rfl, ?_⟩
  refine e_bin op_mul (h := ?_)
  walk_at "E"
  refine e_ty call_int1 S.mint bnm_int (a_cons (h := e_cmp op_eq (h := e_call S.e0 (hr.mono (by decide)) (h := ?_))))
  walk_at "E"
  refine pour_k (n := 898999) j10 (by decide) (by decide) fun o1 H11 l0 l1 g11 j11 => ?_
  walk_at "E"
  refine ⟨rfl, ?_⟩
  walk_at "E"
  refine .inr ⟨_, rfl, ?_⟩
  refine ⟨_, _, rfl, rfl, .inl ⟨by decide, by decide⟩, ?_⟩
  walk_at "ii"
  refine a_cons (h := e_sub (h := e_ixT (h := ?_)))
  walk_at "E"
  refine ⟨_, _, _, _, rfl, rfl, SqT.of (g11.k _ _ eR3), rfl, ?_⟩
  refine e_bin op_mul (h := ?_)
  walk_at "E"
  refine e_ty call_int1 S.mint bnm_int (a_cons (h := e_cmp op_eq (h := e_call S.e0 (hr.mono (by decide)) (h := ?_))))
  walk_at "E"
  refine pour_k (n := 898998) j11 (by decide) (by decide) fun o2 H12 m0 m1 g12 j12 => ?_
  walk_at "E"
  refine ⟨rfl, ?_⟩
  walk_at "E"
  refine .inr ⟨_, rfl, ?_⟩
  refine ⟨_, _, rfl, rfl, .inl ⟨by decide, by decide⟩, ?_⟩
  walk_at "ii"
  refine a_nil ⟨by show 2 ≤ sizeLine; decide, fun O hO => ?_⟩
  obtain ⟨od1, ho1⟩ : ∃ z : Int, z = x1 - 5 * (if decide (V.int o1 = V.int 0) = true then 1 else 0) := ⟨_, rfl⟩
  obtain ⟨od2, ho2⟩ : ∃ z : Int, z = x2 - 5 * (if decide (V.int o2 = V.int 0) = true then 1 else 0) := ⟨_, rfl⟩
  show WSs _ _ _ _ (upd H12 O (.tup [.int (x1 - 5 * (if decide (V.int o1 = V.int 0) = true then 1 else 0)), .int (x2 - 5 * (if decide (V.int o2 = V.int 0) = true then 1 else 0))]))
  rw [← ho1, ← ho2]
  have gF := ((gE.trans g11).trans g12).new (o := .tup [.int od1, .int od2]) hO
  have jF := j12.new (o := .tup [.int od1, .int od2]) hO
  have eO : (upd B3 O (.tup [.int od1, .int od2])) O = some (.tup [.int od1, .int od2]) := upd_same
  have hB4 : Ex B3 (upd B3 O (.tup [.int od1, .int od2])) := Ex.new (none_of_ex (g11.trans g12).k hO)
  have eR4 := hB4 _ _ eR3
  have eT4 := hB4 _ _ eT3
  have dts4 := dts.mono hB4
  clear ho1 ho2
  generalize upd B3 O (HO.tup [.int od1, .int od2]) = B4 at *
  generalize upd H12 O (HO.tup [.int od1, .int od2]) = H13 at *
  -- beyond
  refine s_cons (s_set 8 sc_law.nd (h := e_tup (a_cons (h := e_sub (h := e_call S.e0 (hr.mono (by decide)) (h := ?_))))))
  walk_at "E"
  refine e_add (h := e_ixT (h := ?_))
  walk_at "E"
  refine ⟨_, _, _, _, rfl, rfl, SqT.of (gF.k _ _ eR4), rfl, ?_⟩
  walk_at "E"
  walk_at "ii"
  walk_at "E"
  refine pour_k (n := 898997) jF (by omega) (bn (by omega) (by omega)) fun z1 H14 n0 n1 g14 j14 => ?_
  walk_at "E"
  walk_at "ii"
  refine a_cons (h := e_sub (h := e_call S.e0 (hr.mono (by decide)) (h := ?_)))
  walk_at "E"
  refine e_add (h := e_ixT (h := ?_))
  walk_at "E"
  refine ⟨_, _, _, _, rfl, rfl, SqT.of (g14.k _ _ eR4), rfl, ?_⟩
  walk_at "E"
  walk_at "ii"
  walk_at "E"
  refine pour_k (n := 898996) j14 (by omega) (bn (by omega) (by omega)) fun z2 H15 p0 p1' g15 j15 => ?_
  walk_at "E"
  walk_at "ii"
  refine a_nil ⟨by show 2 ≤ sizeLine; decide, fun Y hY => ?_⟩
  have gG := ((gF.trans g14).trans g15).new (o := .tup [.int (z1 - 1), .int (z2 - 1)]) hY
  have jG := j15.new (o := .tup [.int (z1 - 1), .int (z2 - 1)]) hY
  have eY : (upd B4 Y (.tup [.int (z1 - 1), .int (z2 - 1)])) Y = some (.tup [.int (z1 - 1), .int (z2 - 1)]) := upd_same
  have hB5 : Ex B4 (upd B4 Y (.tup [.int (z1 - 1), .int (z2 - 1)])) := Ex.new (none_of_ex (g14.trans g15).k hY)
  have eR5 := hB5 _ _ eR4
  have eT5 := hB5 _ _ eT4
  have eO5 := hB5 _ _ eO
  have dts5 := dts4.mono hB5
  generalize upd B4 Y (HO.tup [.int (z1 - 1), .int (z2 - 1)]) = B5 at *
  generalize upd H15 Y (HO.tup [.int (z1 - 1), .int (z2 - 1)]) = H16 at *
  have dR : Dt K B5 (.ref R) ((x1, x2) : I2) := dtI2 (SqT.of eR5)
  have dT : Dt K B5 (.ref T) ((y1, y2) : I2) := dtI2 (SqT.of eT5)
  have dO : Dt K B5 (.ref O) ((od1, od2) : I2) := dtI2 (SqT.of eO5)
  have dY : Dt K B5 (.ref Y) ((z1 - 1, z2 - 1) : I2) := dtI2 (SqT.of eY)
  -- the words
  refine s_cons (s_for (h := i_rng1 S.mr (h := ?_)))
  walk_at "E"
  refine ⟨_, rfl, by decide, by decide, ?_⟩
  refine for_it (walk_r0 (n := 3)) (fun i σ H' => (∃ v1 v2, σ = [some (.ref a), some (.int (i0 : Nat)), some (.ref d), some (.int W), some (.ref R), some (.ref T), some tv, some (.ref O), some (.ref Y), v1, v2]) ∧ Gr M0 B5 H16 B5 H') ⟨⟨_, _, rfl⟩, Gr.refl gG.k⟩ (fun _ _ _ _ _ => trivial) ?_ ?_
  · rintro wd x σ H' H'' hwd ⟨⟨v1, v2, rfl⟩, g⟩ ⟨rfl, rfl⟩
    refine g_name 9 sc_law.nd (q := ?_)
    refine s_cons (s_set 10 sc_law.nd (h := e_call S.ed (hr.mono (by decide)) (h := ?_)))
    refine a_cons (h := ?_)
    walk_at "nm"
    refine a_cons (h := e_ixL (h := e_lst ?_))
    walk_at "E"
    refine ⟨by show 2 ≤ sizeLine; decide, fun ze hze => ?_⟩
    have gz := g.new (o := .tup [.int 0, .int 0]) hze
    have ez : (upd B5 ze (.tup [.int 0, .int 0])) ze = some (.tup [.int 0, .int 0]) := upd_same
    have hB6 : Ex B5 (upd B5 ze (.tup [.int 0, .int 0])) := gz.b
    generalize upd B5 ze (HO.tup [.int 0, .int 0]) = B6 at *
    generalize upd H'' ze (HO.tup [.int 0, .int 0]) = H17 at *
    walk_at "E"
    refine ⟨by show 3 ≤ sizeLine; decide, fun li hli => ?_⟩
    have gl := gz.own (o := .lst [.ref Y, .ref Y, .ref ze]) hli
    have el : (upd H17 li (.lst [.ref Y, .ref Y, .ref ze])) li = some (.lst [.ref Y, .ref Y, .ref ze]) := upd_same
    generalize upd H17 li (HO.lst [.ref Y, .ref Y, .ref ze]) = H18 at *
    walk_at "E"
    obtain ⟨pv, hp1, hp2⟩ : ∃ pv : V, ([V.ref Y, .ref Y, .ref ze])[wd]? = some pv ∧ Dt K B6 pv (if wd < 2 then ((z1 - 1, z2 - 1) : I2) else (0, 0)) := by
      match wd, hwd with
      | 0, _ => exact ⟨_, rfl, dY.mono hB6⟩
      | 1, _ => exact ⟨_, rfl, dY.mono hB6⟩
      | 2, _ => exact ⟨_, rfl, dtI2 (SqT.of ez)⟩
    refine ⟨li, _, _, pv, rfl, rfl, SqL.of el, at_of rfl hp1, a_nil ?_⟩
    refine ⟨B6, _, _, (od1, od2), _, rfl, gl.k, dO.mono hB6, hp2, fun va Ba Ha ga da => ?_⟩
    have gm := gl.trans ga
    refine s_one (s_if (t_cmp (op_neD hr.units) (h := e_call S.er hr (h := ?_))))
    walk_at "E"
    refine ⟨Ba, _, _, _, _, (od1, od2), (z1 - 1, z2 - 1), ts, rfl, ga.k, dO.mono gm.b, dY.mono gm.b, dts5.mono gm.b, fun vb Bb Hb gb db => ?_⟩
    walk_at "E"
    rw [ref_due hwd (od1, od2) (z1 - 1, z2 - 1) _ rfl] at db
    refine ne_dat (B := Hb) (db.mono gb.k) (da.mono (gb.b.trans gb.k)) (Ex.refl _) (by decide) ⟨_, rfl, ifn (fun z => absurd rfl z) fun _ => s_nil ?_⟩
    exact ⟨⟨_, _, rfl⟩, (gm.trans gb).base (Ex.refl B5)⟩
  rintro σ Ha ⟨⟨v1, v2, rfl⟩, ga⟩
  have gH := gG.trans ga.up
  have jH := jG.gr ga
  refine s_cons (s_if (t_wb (b_or (t_not (t_val (e_call S.e1 hr (h := ?_)))))))
  walk_at "E"
  refine ⟨B5, _, _, _, (x1, x2), (y1, y2), ts, W, rfl, ga.k, dR, dT, dts5, ⟨h0, by simp only; omega, k0, by simp only; omega⟩, by simp only; omega, by simp only; omega, fun t ht => by have := hts t ht; omega, hlen, hW2, fun Hb gb => ⟨_, rfl, iff_ rfl ?_⟩⟩
  refine b_or1 (t_not (t_val (e_call S.e2 hr (h := ?_))))
  walk_at "E"
  refine ⟨B5, _, _, (x1, x2), (z1 - 1, z2 - 1), W, rfl, gb.k, dR, dY, d0, f0, by simp only; omega, by simp only; omega, by simp only; omega, by simp only; omega, by simp only; omega, by simp only; omega, hW2, fun Hc gc => ⟨_, rfl, iff_ rfl (s_nil ?_)⟩⟩
  have gI := (gH.trans gb.up).trans gc.up
  have jI := (jH.gr gb).gr gc
  refine s_one (s_if (t_wb (b_or (t_not (t_val (e_call S.e3 (hr.mono (by decide)) (h := ?_)))))))
  walk_at "E"
  refine ⟨B5, d, 800, rfl, jI.le (by decide), fun Hd gd jd => ⟨_, rfl, iff_ rfl ?_⟩⟩
  refine b_or1 (t_not (t_val (e_call S.e4 hr (h := ?_))))
  walk_at "E"
  refine ⟨B5, d, 0, rfl, jd.le (by decide), fun He ge je => ⟨_, rfl, iff_ rfl (s_nil ?_)⟩⟩
  have gJ := (gI.trans gd).trans ge
  exact ⟨⟨_, _, _, _, _, _, _, _, _, _, rfl⟩, ex.trans (gJ.b.trans gJ.k)⟩
end
end K34
namespace Lw
open PySem L2 Evl
/-! ### what the top leaves -/
theorem fn_mk {K : PySem.W.Frag} {mg : Str → Option Value} {x : Str} {st : Stmt} {f : Addr} {h : Heap} {oc : Value} {od an : Option Addr} {osl : Array (Option Value)} {kV doc pm cdv ct : Value} (X : K.In h) (G : h.Ns mainGlobals mg) (a : PySem.W.nsIn K mainGlobals x = some (some (.ref f)))
    (l : K.lookup f = some ⟨oc, od, .func (PySem.W.fnOf x x (defArgs st) (defBody st) (defScope st) .none kV doc pm an cdv ct), osl⟩) (c : PySem.W.codeIn K cdv x = true) (k : PySem.W.keepIn K (.ref f) = true) : Fn K mg x st := ⟨f, _, fun_mk l c k, PySem.W.mg_of X G a⟩
def FnK (K : PySem.W.Frag) (x : Str) (st : Stmt) : Prop := ∃ (f : Addr) (oc : Value) (od an : Option Addr) (osl : Array (Option Value)) (kV doc pm cdv ct : Value), PySem.W.nsIn K mainGlobals x = some (some (.ref f)) ∧
  K.lookup f = some ⟨oc, od, .func (PySem.W.fnOf x x (defArgs st) (defBody st) (defScope st) .none kV doc pm an cdv ct), osl⟩ ∧ PySem.W.codeIn K cdv x = true ∧ PySem.W.keepIn K (.ref f) = true
theorem fnK_mk {K : PySem.W.Frag} {x : Str} {st : Stmt} {f : Addr} {oc : Value} {od an : Option Addr} {osl : Array (Option Value)} {kV doc pm cdv ct : Value} (a : PySem.W.nsIn K mainGlobals x = some (some (.ref f)))
    (l : K.lookup f = some ⟨oc, od, .func (PySem.W.fnOf x x (defArgs st) (defBody st) (defScope st) .none kV doc pm an cdv ct), osl⟩) (c : PySem.W.codeIn K cdv x = true) (k : PySem.W.keepIn K (.ref f) = true) : FnK K x st := ⟨f, oc, od, an, osl, kV, doc, pm, cdv, ct, a, l, c, k⟩
theorem FnK.fn {K : PySem.W.Frag} {mg : Str → Option Value} {h : Heap} {x : Str} {st : Stmt} (F : FnK K x st) (X : K.In h) (G : h.Ns mainGlobals mg) : Fn K mg x st := by
  obtain ⟨f, oc, od, an, osl, kV, doc, pm, cdv, ct, a, l, c, k⟩ := F
  exact fn_mk X G a l c k
/-! ### error classes as the top leaves them -/
/-- what except says of an error's class and the clause's -/
theorem exm_by {K : PySem.W.Frag} {S T : Addr} {b : Bool} (h1 : PySem.W.subIn K (.ref T) (.type "BaseException") = some true) (h2 : PySem.W.isClsIn K T = true) (h3 : PySem.W.typeIn K (.ref T) = some (.type "type")) (h4 : PySem.W.subIn K (.ref S) (.ref T) = some b) : PySem.W.exmOne K (.ref S) (.ref T) = some b := by
  unfold PySem.W.isClsIn at h2
  unfold PySem.W.exmOne PySem.W.kitCls
  simp only [h1, h2, h3, h4, beq_self_eq_true, Bool.and_self, if_true]
/-- the class x stands at C; its __init__ is the def st -/
structure ErrK (K : PySem.W.Frag) (x : Str) (st : Stmt) (C : Addr) : Prop where
  gC : PySem.W.nsIn K mainGlobals x = some (some (.ref C))
  ox : OexC K C
  xf : XfC K C
  nv : PySem.W.findIn K (.ref C) "value" = some none
  te : PySem.W.exmOne K (.ref C) (.ref C) = some true
  ini : ∃ fI fd, Fun K "__init__" "WindowError.__init__" st fI fd ∧ PySem.W.findIn K (.ref C) "__init__" = some (some (.ref fI)) ∧ PySem.W.typeIn K (.ref fI) = some (.type "function")
theorem errK_mk {K : PySem.W.Frag} {x : Str} {st : Stmt} {C f : Addr} {nm q : Str} {N : Addr} {bs : List Value} {rs : List Value} {sn : List Str} {sub : List Value} {ab : Bool} {col : Option Bool} {dd : Option Addr} {m0 m1 m2 m3 m5 : Option Value}
    {oc : Value} {od an : Option Addr} {osl : Array (Option Value)} {kV doc pm cdv ct : Value} (gC : PySem.W.nsIn K mainGlobals x = some (some (.ref C)))
    (cl : K.lookup C = some (excClassObj nm q C N bs rs true sn sub ab col dd m0 m1 m2 m3 m5 "ValueError.__new__")) (rv : PySem.HandSPX.refsVE rs = true)
    (sa : PySem.W.findIn K (.ref C) "__setattr__" = some (some (.builtin "object.__setattr__"))) (ex : PySem.W.subIn K (.ref C) (.type "BaseException") = some true) (ty : PySem.W.typeIn K (.ref C) = some (.type "type")) (kC : PySem.W.keepIn K (.ref C) = true)
    (ga : PySem.W.findIn K (.ref C) "__getattribute__" = some (some (.builtin "BaseException.__getattribute__"))) (gg : PySem.W.findIn K (.ref C) "__getattr__" = some none) (hd : PySem.W.hasDictIn K C = true) (nv : PySem.W.findIn K (.ref C) "value" = some none)
    (ic : PySem.W.isClsIn K C = true) (ss : PySem.W.subIn K (.ref C) (.ref C) = some true) (ii : PySem.W.findIn K (.ref C) "__init__" = some (some (.ref f))) (it : PySem.W.typeIn K (.ref f) = some (.type "function"))
    (l : K.lookup f = some ⟨oc, od, .func (PySem.W.fnOf "__init__" "WindowError.__init__" (defArgs st) (defBody st) (defScope st) .none kV doc pm an cdv ct), osl⟩) (c : PySem.W.codeIn K cdv "WindowError.__init__" = true) (k : PySem.W.keepIn K (.ref f) = true) : ErrK K x st C := by
  exact ⟨gC, ⟨⟨nm, q, N, bs, rs, sn, sub, ab, col, dd, m0, m1, m2, m3, m5, cl, rv⟩, sa, ex, ty, kC⟩, ⟨ga, gg, ex, hd⟩, nv, exm_by ex ic ty ss, f, _, fun_mk l c k, ii, it⟩
structure ErrM (K : PySem.W.Frag) (mg : Str → Option Value) (x : Str) (st : Stmt) (C : Addr) : Prop where
  gC : mg x = some (.ref C)
  k : ErrK K x st C
theorem ErrK.at_ {K : PySem.W.Frag} {mg : Str → Option Value} {h : Heap} {x : Str} {st : Stmt} {C : Addr} (E : ErrK K x st C) (X : K.In h) (G : h.Ns mainGlobals mg) : ErrM K mg x st C := ⟨PySem.W.mg_of X G E.gC, E⟩
theorem ErrM.ex {P : Program} {w : World} {K : PySem.W.Frag} {mg : Str → Option Value} {base : Heap} {x : Str} {st : Stmt} {C : Addr} (E : ErrM K mg x st C) (ok : ∀ f fd, Fun K "__init__" "WindowError.__init__" st f fd → FnOk P w K mg base CX0 1 f fd ["self", "value"] (sp_wi K))
    (hb : ∀ (kV doc pm : Value) (an : Option Addr) (cdv ct : Value) (us : List Value), us.length = (["self", "value"] : List Str).length → bindArgs (PySem.W.fnOf "__init__" "WindowError.__init__" (defArgs st) (defBody st) (defScope st) .none kV doc pm an cdv ct) ⟨us, []⟩ = pure ((["self", "value"] : List Str).zip us)) : ExC P w K mg base x C := by
  obtain ⟨fI, fd, F, i, t⟩ := E.k.ini
  exact ⟨E.gC, E.k.ox, E.k.xf, E.k.nv, E.k.te, fI, fd, ok _ _ F, i, t, F.binds hb⟩
end Lw
namespace K34
open PySem L2 Evl Lw
section
variable {P : Program} {w : World} {K : PySem.W.Frag} {mg : Str → Option Value} {base : Heap} {C : Addr}
structure Facts (K : PySem.W.Frag) (mg : Str → Option Value) (C : Addr) : Prop where
  cn : Fn K mg "check_number" s_cn
  ch : Fn K mg "check_height" s_ch
  ro : Fn K mg "room_of" s_ro
  tb : Fn K mg "turned_by" s_tb
  cm : Fn K mg "_check_rooms" s_cm
  cs : Fn K mg "_check_scrolls" s_cs
  tl : Fn K mg "_turned_and_lost" s_tl
  ct : Fn K mg "_clipped_to" s_ct
  lo : Fn K mg "lost" s_lo
  cl : Fn K mg "clipped" s_cl
  jug : Fn K mg "_law_jug" s_jug
  pour : Fn K mg "_law_pour" s_pour
  turns : Fn K mg "_law_turns" s_turns
  ticks : Fn K mg "_law_ticks" s_ticks
  due : Fn K mg "_law_due" s_due
  ref : Fn K mg "_law_refused" s_ref
  right : Fn K mg "_law_right" s_right
  gr : Fn K mg "_law_great_right" s_gr
  cr : Fn K mg "_law_clipped_right" s_cr
  rr : Fn K mg "_law_room_right" s_rr
  mmax : mg "max" = none
  mmin : mg "min" = none
  mzip : mg "zip" = none
  mlen : mg "len" = none
  mint : mg "int" = none
  mrange : mg "range" = none
  mabs : mg "abs" = none
  misi : mg "isinstance" = none
  mtup : mg "tuple" = none
  msor : mg "sorted" = none
  E : ErrM K mg "InvalidNumber" s_wi C
theorem all_ok (W : Facts K mg C) : ∀ f fd, Fun K "law" "law" s_law f fd → FnOk P w K mg base CX0 7 f fd ["_law_script"] (sp_law K) := by
  have T : ExC P w K mg base "InvalidNumber" C := W.E.ex (fun f fd F => ok_wi F) fun _ _ _ _ _ _ us hl => match us, hl with | [_, _], _ => rfl
  have cn : CalX P w K mg base "check_number" 3 ["number"] (sp_cn C) := calX_fn W.cn (ok_cn T) fun _ _ _ _ _ _ us hl => match us, hl with | [_], _ => rfl
  have ch : CalX P w K mg base "check_height" 3 ["height"] (sp_ch C) := calX_fn W.ch (ok_ch T) fun _ _ _ _ _ _ us hl => match us, hl with | [_], _ => rfl
  have roF := ok_ro (P := P) (w := w) (base := base) T W.mmax cn ch
  have ro : CalX P w K mg base "room_of" 4 ["lines", "height"] (sp_ro C) := calX_fn W.ro roF fun _ _ _ _ _ _ us hl => match us, hl with | [_, _], _ => rfl
  have roK : CalKX P w K mg base "room_of" 4 ["lines", "height"] ["height", "lines"] perm2 (sp_ro C) := calKX_fn perm2 W.ro roF vals_perm2 fun _ _ _ _ _ _ ws hl => match ws, hl with | [_, _], _ => rfl
  have cm : CalX P w K mg base "_check_rooms" 4 ["rooms"] (sp_cm K C) := calX_fn W.cm (ok_cm cn) fun _ _ _ _ _ _ us hl => match us, hl with | [_], _ => rfl
  have cs : CalX P w K mg base "_check_scrolls" 3 ["rooms", "scrolls"] (sp_cs K C) := calX_fn W.cs (ok_cs T W.mzip) fun _ _ _ _ _ _ us hl => match us, hl with | [_, _], _ => rfl
  have ct : Cal P w K mg base "_clipped_to" 1 ["room", "scroll"] sp_ct := cal_fn W.ct (ok_ct W.mmax W.mmin) fun _ _ _ _ _ _ us hl => match us, hl with | [_, _], _ => rfl
  have tl : Cal P w K mg base "_turned_and_lost" 2 ["rooms", "scrolls", "turns"] (sp_tl K) := cal_fn W.tl (ok_tl W.mmax ct) fun _ _ _ _ _ _ us hl => match us, hl with | [_, _, _], _ => rfl
  have tbF := ok_tb cm cs tl
  have tb : CalX P w K mg base "turned_by" 5 ["rooms", "scrolls", "turns"] (sp_tb K C) := calX_fn W.tb tbF fun _ _ _ _ _ _ us hl => match us, hl with | [_, _, _], _ => rfl
  have tbK : CalKX P w K mg base "turned_by" 5 ["rooms", "scrolls", "turns"] ["turns", "scrolls", "rooms"] perm3 (sp_tb K C) := calKX_fn perm3 W.tb tbF vals_perm3 fun _ _ _ _ _ _ ws hl => match ws, hl with | [_, _, _], _ => rfl
  have loF := ok_lo cm cs tl
  have lo : CalX P w K mg base "lost" 5 ["rooms", "scrolls", "turns"] (sp_lo K C) := calX_fn W.lo loF fun _ _ _ _ _ _ us hl => match us, hl with | [_, _, _], _ => rfl
  have loK : CalKX P w K mg base "lost" 5 ["rooms", "scrolls", "turns"] ["turns", "rooms", "scrolls"] perm3b (sp_lo K C) := calKX_fn perm3b W.lo loF vals_perm3b fun _ _ _ _ _ _ ws hl => match ws, hl with | [_, _, _], _ => rfl
  have clF := ok_cl cm ct
  have cl : CalX P w K mg base "clipped" 5 ["rooms", "scrolls"] (sp_cl K C) := calX_fn W.cl clF fun _ _ _ _ _ _ us hl => match us, hl with | [_, _], _ => rfl
  have clK : CalKX P w K mg base "clipped" 5 ["rooms", "scrolls"] ["scrolls", "rooms"] perm2 (sp_cl K C) := calKX_fn perm2 W.cl clF vals_perm2 fun _ _ _ _ _ _ ws hl => match ws, hl with | [_, _], _ => rfl
  have pour : Cal P w K mg base "_law_pour" 1 ["_law_jug_here", "_law_many"] sp_pour := cal_fn W.pour (ok_pour W.mint) fun _ _ _ _ _ _ us hl => match us, hl with | [_, _], _ => rfl
  have ticks : Cal P w K mg base "_law_ticks" 1 ["_law_rooms", "_law_scrolls", "_law_turns_here"] (sp_ti K) := cal_fn W.ticks (ok_ti W.mrange W.mabs) fun _ _ _ _ _ _ us hl => match us, hl with | [_, _, _], _ => rfl
  exact ok_law (C := C)
    { mr := W.mrange, ml := W.mlen, mmin := W.mmin, mmax := W.mmax, mint := W.mint
      ej := cal_fn W.jug (ok_jug W.mlen W.mmax) fun _ _ _ _ _ _ us hl => match us, hl with | [_, _], _ => rfl
      e0 := pour
      et := cal_fn W.turns (ok_turns W.mrange pour) fun _ _ _ _ _ _ us hl => match us, hl with | [_, _, _], _ => rfl
      ed := cal_fn W.due (ok_due W.mzip) fun _ _ _ _ _ _ us hl => match us, hl with | [_, _], _ => rfl
      er := cal_fn W.ref (ok_ref T tb lo cl) fun _ _ _ _ _ _ us hl => match us, hl with | [_, _, _, _], _ => rfl
      e1 := cal_fn W.right (ok_ri W.misi W.mtup ticks tb lo tbK loK) fun _ _ _ _ _ _ us hl => match us, hl with | [_, _, _, _], _ => rfl
      e2 := cal_fn W.cr (ok_cr W.mzip W.msor W.mtup clK) fun _ _ _ _ _ _ us hl => match us, hl with | [_, _, _], _ => rfl
      e3 := cal_fn W.rr (ok_rr T W.mrange W.mlen pour ro roK) fun _ _ _ _ _ _ us hl => match us, hl with | [_], _ => rfl
      e4 := cal_fn W.gr (ok_gr W.mrange W.msor W.mint W.mabs W.mtup pour tb lo) fun _ _ _ _ _ _ us hl => match us, hl with | [_], _ => rfl }
end
theorem walk {l : PySem.W.OpenLaw} {q : Program} {loose : List Str} {XP : (Str → Option Value) → Heap → Prop} {YP : World → Heap → Prop} {d : DefRec} {K : Params → PySem.W.Frag} (hn : l.most = some 63) (hdf : d.params.defaults = [])
    (hY : ∀ (w : World) (h : Heap), YP w h → (K w.params).In h)
    (F : ∀ (w : World) (mg : Str → Option Value) (fa : Addr) (h : Heap), (K w.params).In h → h.Ns mainGlobals mg → mg d.name = some (.ref fa) → ∃ fd, Fun (K w.params) "law" "law" s_law fa fd ∧ ∃ C, Facts (K w.params) mg C) :
    PySem.W.WalkO q loose XP YP l.row.toRowW d [] (fun f vs => PySem.call f vs) :=
  L2.walk_of (n := 63) (k := 7) (x := "_law_script") (CX := fun _ => CX0) (sp := fun w => sp_law (K w.params)) hn (by decide) hdf ⟨rfl, by decide, by decide⟩ hY
    (fun w mg fa h KX G hmg => by
      obtain ⟨fd, Fl, C, W⟩ := F w mg fa h KX G hmg
      refine ⟨fd, fun s v => ?_, fun base _ _ => all_ok W _ _ Fl⟩
      obtain ⟨oc, od, kV, doc, pm, an, cdv, ct, osl, rfl, lk, hcd⟩ := Fl.ex
      exact .of_eq rfl)
    (fun _ _ a ns hl _ hS => ⟨a, ns, rfl, hS, hl, fun _ => rfl⟩) fun _ _ _ _ _ z => z
end K34
namespace K34
open PySem L2 Evl Lw
theorem all_mk {K : PySem.W.Frag} {mg : Str → Option Value} {h : Heap} {fa CE : Addr} (X : K.In h) (G : h.Ns mainGlobals mg) (hfa : mg "law" = some (.ref fa)) (xlaw : FnK K "law" s_law)
    (x_cn : FnK K "check_number" s_cn)
    (x_ch : FnK K "check_height" s_ch)
    (x_ro : FnK K "room_of" s_ro)
    (x_tb : FnK K "turned_by" s_tb)
    (x_cm : FnK K "_check_rooms" s_cm)
    (x_cs : FnK K "_check_scrolls" s_cs)
    (x_tl : FnK K "_turned_and_lost" s_tl)
    (x_ct : FnK K "_clipped_to" s_ct)
    (x_lo : FnK K "lost" s_lo)
    (x_cl : FnK K "clipped" s_cl)
    (x_jug : FnK K "_law_jug" s_jug)
    (x_pour : FnK K "_law_pour" s_pour)
    (x_turns : FnK K "_law_turns" s_turns)
    (x_ticks : FnK K "_law_ticks" s_ticks)
    (x_due : FnK K "_law_due" s_due)
    (x_ref : FnK K "_law_refused" s_ref)
    (x_right : FnK K "_law_right" s_right)
    (x_gr : FnK K "_law_great_right" s_gr)
    (x_cr : FnK K "_law_clipped_right" s_cr)
    (x_rr : FnK K "_law_room_right" s_rr)
    (n_mmax : PySem.W.nsIn K mainGlobals "max" = some none)
    (n_mmin : PySem.W.nsIn K mainGlobals "min" = some none)
    (n_mzip : PySem.W.nsIn K mainGlobals "zip" = some none)
    (n_mlen : PySem.W.nsIn K mainGlobals "len" = some none)
    (n_mint : PySem.W.nsIn K mainGlobals "int" = some none)
    (n_mrange : PySem.W.nsIn K mainGlobals "range" = some none)
    (n_mabs : PySem.W.nsIn K mainGlobals "abs" = some none)
    (n_misi : PySem.W.nsIn K mainGlobals "isinstance" = some none)
    (n_mtup : PySem.W.nsIn K mainGlobals "tuple" = some none)
    (n_msor : PySem.W.nsIn K mainGlobals "sorted" = some none)
    (e_E : ErrK K "InvalidNumber" s_wi CE)
    : ∃ fd, Fun K "law" "law" s_law fa fd ∧ ∃ C, Facts K mg C := by
  obtain ⟨fl, fdl, Fl, hl⟩ := xlaw.fn X G
  have e := hfa.symm.trans hl
  cases e
  exact ⟨fdl, Fl, CE,
    { cn := x_cn.fn X G, ch := x_ch.fn X G, ro := x_ro.fn X G, tb := x_tb.fn X G, cm := x_cm.fn X G, cs := x_cs.fn X G, tl := x_tl.fn X G, ct := x_ct.fn X G, lo := x_lo.fn X G, cl := x_cl.fn X G, jug := x_jug.fn X G, pour := x_pour.fn X G, turns := x_turns.fn X G, ticks := x_ticks.fn X G, due := x_due.fn X G, ref := x_ref.fn X G, right := x_right.fn X G, gr := x_gr.fn X G, cr := x_cr.fn X G, rr := x_rr.fn X G, mmax := PySem.W.mg_none_of X G n_mmax, mmin := PySem.W.mg_none_of X G n_mmin, mzip := PySem.W.mg_none_of X G n_mzip, mlen := PySem.W.mg_none_of X G n_mlen, mint := PySem.W.mg_none_of X G n_mint, mrange := PySem.W.mg_none_of X G n_mrange, mabs := PySem.W.mg_none_of X G n_mabs, misi := PySem.W.mg_none_of X G n_misi, mtup := PySem.W.mg_none_of X G n_mtup, msor := PySem.W.mg_none_of X G n_msor, E := e_E.at_ X G }⟩
end K34
open PySem PySem.W PyProof.Rows in
set_option maxRecDepth 100000 in
set_option maxHeartbeats 0 in
theorem PySem.Challenge.cw_listwindow_k34_turns_tick_by_tick_holds : PySem.Challenge.rw_listwindow_k34_turns_tick_by_tick.Holds := by
  w_on; o_law; k_head; (case hw => w_witness2)
  k_fill
  refine K34.walk (l := PySem.Challenge.rw_listwindow_k34_turns_tick_by_tick) rfl rfl (fun w h Y => PySem.W.kIn_of Y) ?F
  case F =>
    intro w mg fa h KX G hmg
    refine' K34.all_mk KX G hmg ?xlaw ?x_cn ?x_ch ?x_ro ?x_tb ?x_cm ?x_cs ?x_tl ?x_ct ?x_lo ?x_cl ?x_jug ?x_pour ?x_turns ?x_ticks ?x_due ?x_ref ?x_right ?x_gr ?x_cr ?x_rr ?n_mmax ?n_mmin ?n_mzip ?n_mlen ?n_mint ?n_mrange ?n_mabs ?n_misi ?n_mtup ?n_msor ?e_E
    (case xlaw => (refine' Lw.fnK_mk ?a ?l ?c ?k; (case a => k_is); (case l => k_is); (case c => k_is); (case k => k_is)))
    (case x_cn => (refine' Lw.fnK_mk ?a ?l ?c ?k; (case a => k_is); (case l => k_is); (case c => k_is); (case k => k_is)))
    (case x_ch => (refine' Lw.fnK_mk ?a ?l ?c ?k; (case a => k_is); (case l => k_is); (case c => k_is); (case k => k_is)))
    (case x_ro => (refine' Lw.fnK_mk ?a ?l ?c ?k; (case a => k_is); (case l => k_is); (case c => k_is); (case k => k_is)))
    (case x_tb => (refine' Lw.fnK_mk ?a ?l ?c ?k; (case a => k_is); (case l => k_is); (case c => k_is); (case k => k_is)))
    (case x_cm => (refine' Lw.fnK_mk ?a ?l ?c ?k; (case a => k_is); (case l => k_is); (case c => k_is); (case k => k_is)))
    (case x_cs => (refine' Lw.fnK_mk ?a ?l ?c ?k; (case a => k_is); (case l => k_is); (case c => k_is); (case k => k_is)))
    (case x_tl => (refine' Lw.fnK_mk ?a ?l ?c ?k; (case a => k_is); (case l => k_is); (case c => k_is); (case k => k_is)))
    (case x_ct => (refine' Lw.fnK_mk ?a ?l ?c ?k; (case a => k_is); (case l => k_is); (case c => k_is); (case k => k_is)))
    (case x_lo => (refine' Lw.fnK_mk ?a ?l ?c ?k; (case a => k_is); (case l => k_is); (case c => k_is); (case k => k_is)))
    (case x_cl => (refine' Lw.fnK_mk ?a ?l ?c ?k; (case a => k_is); (case l => k_is); (case c => k_is); (case k => k_is)))
    (case x_jug => (refine' Lw.fnK_mk ?a ?l ?c ?k; (case a => k_is); (case l => k_is); (case c => k_is); (case k => k_is)))
    (case x_pour => (refine' Lw.fnK_mk ?a ?l ?c ?k; (case a => k_is); (case l => k_is); (case c => k_is); (case k => k_is)))
    (case x_turns => (refine' Lw.fnK_mk ?a ?l ?c ?k; (case a => k_is); (case l => k_is); (case c => k_is); (case k => k_is)))
    (case x_ticks => (refine' Lw.fnK_mk ?a ?l ?c ?k; (case a => k_is); (case l => k_is); (case c => k_is); (case k => k_is)))
    (case x_due => (refine' Lw.fnK_mk ?a ?l ?c ?k; (case a => k_is); (case l => k_is); (case c => k_is); (case k => k_is)))
    (case x_ref => (refine' Lw.fnK_mk ?a ?l ?c ?k; (case a => k_is); (case l => k_is); (case c => k_is); (case k => k_is)))
    (case x_right => (refine' Lw.fnK_mk ?a ?l ?c ?k; (case a => k_is); (case l => k_is); (case c => k_is); (case k => k_is)))
    (case x_gr => (refine' Lw.fnK_mk ?a ?l ?c ?k; (case a => k_is); (case l => k_is); (case c => k_is); (case k => k_is)))
    (case x_cr => (refine' Lw.fnK_mk ?a ?l ?c ?k; (case a => k_is); (case l => k_is); (case c => k_is); (case k => k_is)))
    (case x_rr => (refine' Lw.fnK_mk ?a ?l ?c ?k; (case a => k_is); (case l => k_is); (case c => k_is); (case k => k_is)))
    (case n_mmax => k_is)
    (case n_mmin => k_is)
    (case n_mzip => k_is)
    (case n_mlen => k_is)
    (case n_mint => k_is)
    (case n_mrange => k_is)
    (case n_mabs => k_is)
    (case n_misi => k_is)
    (case n_mtup => k_is)
    (case n_msor => k_is)
    (case e_E => (refine' Lw.errK_mk ?gC ?cl ?rv ?sa ?ex ?ty ?kC ?ga ?gg ?hd ?nv ?ic ?ss ?ii ?it ?l ?c ?k; (case gC => k_is); (case cl => k_is); (case rv => first | rfl | decide +kernel); (case sa => k_is); (case ex => k_is); (case ty => k_is); (case kC => k_is); (case ga => k_is); (case gg => k_is); (case hd => k_is); (case nv => k_is); (case ic => k_is); (case ss => k_is); (case ii => k_is); (case it => k_is); (case l => k_is); (case c => k_is); (case k => k_is)))
