import PyProof.Rows.All
import Wide.All
import OpenK.AllK
import Wide.FinOn
import HandS.ForMost
import HandS.Evl
import HandS.Walk
import HandS.Defaults
import HandS.Property
import HandS.Style
import HandS.Flow
import HandS.IsInst
import HandS.Conv
import HandS.Wide
import HandS.OwnEq
import HandS.EndBits
import KE.KFmtOwn
import HandS.SortKw
import HandS.DictComp
import HandS.More
import HandS.TupAny
import HandS.Zip
import HandS.Exc
import HandS.ExcOwn
import HandS.ExcInit
import HandS.ExcField
import HandS.WordsExc
import HandS.SortInts
import PyProof.Rows.RuleB_pow
import PySem.Challenge.RW_listwindow_k37_short_forms_in_all_rooms
set_option Elab.async false
set_option linter.all false
set_option maxRecDepth 100000
set_option maxHeartbeats 4000000
/-! Readings that choose their rule when the values are known; what is known of the heap, and what grows. -/
namespace Lw
open PySem PySem.Spec L2 Evl

/-! ### judgements with the rule left open -/
def WE (X : Cx) (e : Expr) : TE := fun σ H Q => ∃ t, PE X e t ∧ t σ H Q
def WT (X : Cx) (e : Expr) : TT := fun σ H Q => ∃ t, PT X e t ∧ t σ H Q
def WB (X : Cx) (e : Expr) : TT := fun σ H Q => ∃ t, PW X e t ∧ t σ H Q
def WA (X : Cx) (es : List Expr) : TA := fun σ H Q => ∃ t, PA X es t ∧ t σ H Q
def WK (X : Cx) (ks : List Keyword) : TA := fun σ H Q => ∃ t, PK X ks t ∧ t σ H Q
def WS (X : Cx) (s : Stmt) : TS := fun D σ H => ∃ t, PS X s t ∧ t D σ H
def WSs (X : Cx) (s : List Stmt) : TS := fun D σ H => ∃ t, PSs X s t ∧ t D σ H
def WG (X : Cx) (tg : Expr) : TG := fun v σ H Q => ∃ t, PG X tg t ∧ t v σ H Q
def WGs (X : Cx) (tgs : List Expr) : TGs := fun v σ H Q => ∃ t, PGs X tgs t ∧ t v σ H Q
def WI (X : Cx) (tg it : Expr) : TI := fun σ H R => ∃ t, PI X tg it t ∧ t σ H R
def WO (X : Cx) (e : Option Expr) : TO := fun σ H Q => ∃ t, PO X e t ∧ t σ H Q
def WTs (X : Cx) (es : List Expr) : TT := fun σ H Q => ∃ t, PTs X es t ∧ t σ H Q
section
variable {X : Cx} {e tg : Expr} {es : List Expr} {s : Stmt} {ss : List Stmt} {ks : List Keyword} {o : Option Expr}
theorem WE.pe : PE X e (WE X e) := ⟨fun pins s σ H Q I h => by obtain ⟨t, h1, h2⟩ := h; exact h1.run pins s σ H Q I h2⟩
theorem WT.pt : PT X e (WT X e) := ⟨fun pins s σ H Q I h => by obtain ⟨t, h1, h2⟩ := h; exact h1.run pins s σ H Q I h2⟩
theorem WB.pw : PW X e (WB X e) := ⟨fun wh pins s σ H Q I h => by obtain ⟨t, h1, h2⟩ := h; exact h1.run wh pins s σ H Q I h2⟩
theorem WA.pa : PA X es (WA X es) := ⟨fun pos pins s σ H Q I h => by obtain ⟨t, h1, h2⟩ := h; exact h1.run pos pins s σ H Q I h2⟩
theorem WK.pk : PK X ks (WK X ks) := ⟨fun pos pins s σ H Q I h => by obtain ⟨t, h1, h2⟩ := h; exact h1.run pos pins s σ H Q I h2⟩
theorem WS.ps : PS X s (WS X s) := ⟨fun pins s σ H D I h => by obtain ⟨t, h1, h2⟩ := h; exact h1.run pins s σ H D I h2⟩
theorem WSs.pss : PSs X ss (WSs X ss) := ⟨fun pins s σ H D I h => by obtain ⟨t, h1, h2⟩ := h; exact h1.run pins s σ H D I h2⟩
theorem WG.pg : PG X tg (WG X tg) := ⟨fun pins s σ H v u Q I r h => by obtain ⟨t, h1, h2⟩ := h; exact h1.run pins s σ H v u Q I r h2⟩
theorem WGs.pgs : PGs X es (WGs X es) := ⟨fun pins s σ H v u Q I r h => by obtain ⟨t, h1, h2⟩ := h; exact h1.run pins s σ H v u Q I r h2⟩
theorem WI.pi : PI X tg e (WI X tg e) := ⟨fun pins s σ H R I h => by obtain ⟨t, h1, h2⟩ := h; exact h1.run pins s σ H R I h2⟩
theorem WO.po : PO X o (WO X o) := ⟨fun pins s σ H Q I h => by obtain ⟨t, h1, h2⟩ := h; exact h1.run pins s σ H Q I h2⟩
theorem WTs.pts : PTs X es (WTs X es) := ⟨fun pins s σ H Q I h => by obtain ⟨t, h1, h2⟩ := h; exact h1.run pins s σ H Q I h2⟩
end

/-! ### expressions -/
section
variable {X : Cx} {σ : L2.St} {H : Hp} {Q : VK} {a b c e : Expr} {pos p2 : Pos} {x : Str} {v : V} {r r2 : R2}
theorem e_name (i : Nat) (hN : X.N[i]? = some x := by rfl) (hs : σ[i]? = some (some v) := by rfl) (hv : Vis X.env.scope x := by first | exact Or.inl rfl | exact Or.inr (Or.inl rfl) | exact Or.inr (Or.inr rfl)) (hd : (x == ("__debug__" : Str)) = false := by decide)
    (hcd : (x == ("__classdict__" : Str)) = false := by decide) (q : Q v H) : WE X (.Name x pos) σ H Q := ⟨_, pe_var hN hv hd hcd, v, hs, q⟩
theorem e_glob {u : Value} (hm : X.mg x = some u) (rv : RelV v u) (hg : Gl X x := by rfl) (hd : (x == ("__debug__" : Str)) = false := by decide) (q : Q v H) : WE X (.Name x pos) σ H Q := ⟨_, pe_glob hg hm rv hd, q⟩
theorem e_bltn {u : Value} (hm : X.mg x = none) (hv : bootBuiltins x = some u) (rv : RelV v u) (hg : Gl X x := by rfl) (hn : x ≠ "__name__" := by decide) (hd : (x == ("__debug__" : Str)) = false := by decide) (q : Q v H) : WE X (.Name x pos) σ H Q := ⟨_, pe_bltn hg hm hv rv hn hd, q⟩
theorem e_int {i j} (q : Q (.int i) H) : WE X (.Constant (.int i) j pos) σ H Q := ⟨_, pe_int, q⟩
theorem e_bl {i j} (q : Q (.bl i) H) : WE X (.Constant (.bool i) j pos) σ H Q := ⟨_, pe_bl, q⟩
theorem e_non {j} (q : Q .non H) : WE X (.Constant .none j pos) σ H Q := ⟨_, pe_non, q⟩
theorem e_str {i j} (q : Q (.str i) H) : WE X (.Constant (.str i) j pos) σ H Q := ⟨_, pe_str, q⟩
theorem e_bin {op : Operator} (ho : OpR X (binaryOp op) r) (h : WE X a σ H fun x H1 => WE X b σ H1 fun y H2 => r x y H2 Q) : WE X (.BinOp a op b pos) σ H Q := ⟨_, pe_op ho WE.pe WE.pe, h⟩
theorem e_cmp {op : CmpOp} (ho : OpR X (compareOp op) r) (hm : behindInMarks op b = false := by first | exact nomark _ | rfl) (h : WE X a σ H fun x H1 => WE X b σ H1 fun y H2 => r x y H2 Q) : WE X (.Compare a [op] [b] pos) σ H Q := ⟨_, pe_cmpR ho WE.pe WE.pe hm, h⟩
theorem e_neg (h : WE X a σ H fun x H1 => ∃ i, x = .int i ∧ Q (.int (-i)) H1) : WE X (.UnaryOp .USub a pos) σ H Q := ⟨_, pe_un un_neg WE.pe, h⟩
theorem e_add (h : WE X a σ H fun x H1 => WE X b σ H1 fun y H2 => ∃ i j, x = .int i ∧ y = .int j ∧ Q (.int (i + j)) H2) : WE X (.BinOp a .Add b pos) σ H Q := e_bin op_add h
theorem e_sub (h : WE X a σ H fun x H1 => WE X b σ H1 fun y H2 => ∃ i j, x = .int i ∧ y = .int j ∧ Q (.int (i - j)) H2) : WE X (.BinOp a .Sub b pos) σ H Q := e_bin op_sub h
theorem e_mul (h : WE X a σ H fun x H1 => WE X b σ H1 fun y H2 => ∃ i j, x = .int i ∧ y = .int j ∧ CMulW i j ∧ Q (.int (i * j)) H2) : WE X (.BinOp a .Mult b pos) σ H Q := e_bin op_mulW h
theorem e_mod (h : WE X a σ H fun x H1 => WE X b σ H1 fun y H2 => ∃ i j, x = .int i ∧ y = .int j ∧ 0 < j ∧ Q (.int (i % j)) H2) : WE X (.BinOp a .Mod b pos) σ H Q := e_bin op_mod h
theorem e_fdiv (h : WE X a σ H fun x H1 => WE X b σ H1 fun y H2 => ∃ i j, x = .int i ∧ y = .int j ∧ CDivW i j ∧ Q (.int (i / j)) H2) : WE X (.BinOp a .FloorDiv b pos) σ H Q := e_bin op_fdivW h
theorem e_pow (h : WE X a σ H fun x H1 => WE X b σ H1 fun y H2 => ∃ i j, x = .int i ∧ y = .int j ∧ CPow i j ∧ Q (.int (i ^ j.toNat)) H2) : WE X (.BinOp a .Pow b pos) σ H Q := e_bin op_pow h
theorem e_if {t : Expr} (h : WT X t σ H fun k H1 => if k = true then WE X a σ H1 Q else WE X b σ H1 Q) : WE X (.IfExp t a b pos) σ H Q := ⟨_, pe_ifExp WT.pt WE.pe WE.pe, h⟩
theorem e_and {rest : List Expr} (h : WE X a σ H fun x H1 => ∃ c, x = .bl c ∧ if c = true then WE X (.BoolOp .And (b :: rest) pos) σ H1 Q else Q (.bl false) H1) : WE X (.BoolOp .And (a :: b :: rest) pos) σ H Q := ⟨_, pe_and WE.pe WE.pe, h⟩
theorem e_or {rest : List Expr} (h : WE X a σ H fun x H1 => ∃ c, x = .bl c ∧ if c = true then Q (.bl true) H1 else WE X (.BoolOp .Or (b :: rest) pos) σ H1 Q) : WE X (.BoolOp .Or (a :: b :: rest) pos) σ H Q := ⟨_, pe_or WE.pe WE.pe, h⟩
theorem e_one {op} (h : WE X a σ H Q) : WE X (.BoolOp op [a] pos) σ H Q := ⟨_, pe_one WE.pe, h⟩
theorem e_not (h : WE X a σ H fun x H1 => ∃ c, x = .bl c ∧ Q (.bl (!c)) H1) : WE X (.UnaryOp .Not a pos) σ H Q := ⟨_, pe_not WE.pe, h⟩
theorem e_lst {es : List Expr} (h : WA X es σ H fun xs H1 => xs.length ≤ sizeLine ∧ ∀ p, H1 p = none → Q (.ref p) (upd H1 p (.lst xs))) : WE X (.List es pos) σ H Q := ⟨_, pe_lst WA.pa, h⟩
theorem e_tup {es : List Expr} {k : Nat} (h : WA X es σ H fun xs H1 => xs.length ≤ sizeLine ∧ ∀ p, H1 p = none → Q (.ref p) (upd H1 p (.tup xs))) : WE X (.Tuple es k pos) σ H Q := ⟨_, pe_tup WA.pa, h⟩
theorem e_ixL (hs : PlainIx b := by exact fun _ _ => rfl) (h : WE X a σ H fun x H1 => WE X b σ H1 fun y H2 => ∃ p xs i v, x = .ref p ∧ y = .int i ∧ SqL X.K H2 p xs ∧ atI xs i = some v ∧ Q v H2) : WE X (.Subscript a b pos) σ H Q := ⟨_, pe_ix ix_list WE.pe WE.pe hs, h⟩
theorem e_ixT (hs : PlainIx b := by exact fun _ _ => rfl) (h : WE X a σ H fun x H1 => WE X b σ H1 fun y H2 => ∃ p xs i v, x = .ref p ∧ y = .int i ∧ SqT X.K H2 p xs ∧ atI xs i = some v ∧ Q v H2) : WE X (.Subscript a b pos) σ H Q := ⟨_, pe_ix ix_tup WE.pe WE.pe hs, h⟩
theorem e_fld {f : Str} (hb : attributeBase e f X.env (eval e X.env) = eval e X.env := by rfl) (h : WE X e σ H fun x H1 => ∃ a C dx fs v, x = .ref a ∧ H1 a = some (.ins C dx fs) ∧ Cls X.K C ∧ NoAttr X.K C f ∧ fs.lookup f = some v ∧ Q v H1) : WE X (.Attribute e f pos) σ H Q := ⟨_, pe_fld WE.pe hb, h⟩
theorem e_slice {lo hi : Option Expr} (h : WE X a σ H fun x H1 => WO X lo σ H1 fun i H2 => WO X hi σ H2 fun j H3 => ∃ a xs, x = .ref a ∧ SqL X.K H3 a xs ∧ ∀ p, H3 p = none → Q (.ref p) (upd H3 p (.lst (cutV xs i j)))) : WE X (.Subscript a (.Slice lo hi none p2) pos) σ H Q := ⟨_, pe_slice sl_list WE.pe WO.po WO.po, h⟩
theorem o_none {Q : Option Int → Hp → Prop} (q : Q none H) : WO X none σ H Q := ⟨_, po_none, q⟩
theorem o_some {Q : Option Int → Hp → Prop} (h : WE X e σ H fun x H1 => ∃ i, x = .int i ∧ Q (some i) H1) : WO X (some e) σ H Q := ⟨_, po_some WE.pe, h⟩
/-- a built-in by its name -/
theorem e_blt {id : String} {rc : List V → Hp → VK → Prop} {es : List Expr} (hc : CallR X (.builtin id) rc) (hm : X.mg x = none) (hv : bootBuiltins x = some (.builtin id)) (h : WA X (e :: es) σ H fun vs H1 => rc vs H1 Q)
    (hg : Gl X x := by rfl) (hn : x ≠ "__name__" := by decide) (hd : (x == ("__debug__" : Str)) = false := by decide) (he : starEach (e :: es) X.env = (false, eval e X.env) :: starEach es X.env := by rfl) (hpl : (backTo pos (starEach es X.env)).any (·.1) = false := by rfl) : WE X (.Call (.Name x p2) (e :: es) [] pos) σ H Q :=
  ⟨_, pe_callB hc hg hm hv WA.pa hn hd he hpl, h⟩
end
section
variable {X : Cx} {σ : L2.St} {H : Hp} {Q : VK} {a b c e : Expr} {pos p2 : Pos} {x : Str} {v : V} {r r2 : R2} {es : List Expr} {QA : List V → Hp → Prop} {QT : Bool → Hp → Prop}
theorem e_ty {T : String} {rc : List V → Hp → VK → Prop} (hc : CallR X (.type T) rc) (hm : X.mg x = none) (hv : bootBuiltins x = some (.type T)) (h : WA X (e :: es) σ H fun vs H1 => rc vs H1 Q)
    (hg : Gl X x := by rfl) (hn : x ≠ "__name__" := by decide) (hd : (x == ("__debug__" : Str)) = false := by decide) (he : starEach (e :: es) X.env = (false, eval e X.env) :: starEach es X.env := by rfl) (hpl : (backTo pos (starEach es X.env)).any (·.1) = false := by rfl) : WE X (.Call (.Name x p2) (e :: es) [] pos) σ H Q :=
  ⟨_, pe_callTy hc hg hm hv WA.pa hn hd he hpl, h⟩
theorem a_nil (q : QA [] H) : WA X [] σ H QA := ⟨_, pa_nil, q⟩
theorem a_cons (hp : starEach (e :: es) X.env = (false, eval e X.env) :: starEach es X.env := by rfl) (h : WE X e σ H fun x H1 => WA X es σ H1 fun xs H2 => QA (x :: xs) H2) : WA X (e :: es) σ H QA := ⟨_, pa_cons WE.pe WA.pa hp, h⟩
theorem k_nil (q : QA [] H) : WK X [] σ H QA := ⟨_, pk_nil, q⟩
theorem k_cons {nm : Option Str} {kp : Pos} {ks : List Keyword} (h : WE X e σ H fun x H1 => WK X ks σ H1 fun xs H2 => QA (x :: xs) H2) : WK X (⟨nm, e, kp⟩ :: ks) σ H QA := ⟨_, pk_cons WE.pe WK.pk, h⟩

/-! ### tests -/
theorem t_val (h : WE X e σ H fun x H1 => ∃ k, x = .bl k ∧ QT k H1) (he : ∀ whole, isTrue e X.env whole = (do let v ← whole; standAt e.pos; holding [v] (truthy v)) := by intro _; rfl) : WT X e σ H QT := ⟨_, pt_val WE.pe he, h⟩
theorem t_tru (h : WE X e σ H fun x H1 => ∃ k, TruV X.K x H1 k ∧ QT k H1) (he : ∀ whole, isTrue e X.env whole = (do let v ← whole; standAt e.pos; holding [v] (truthy v)) := by intro _; rfl) : WT X e σ H QT := ⟨_, pt_truth WE.pe he, h⟩
theorem t_cmp {op : CmpOp} (ho : OpR X (compareOp op) r) (hm : behindInMarks op b = false := by first | exact nomark _ | rfl) (h : WE X a σ H fun x H1 => WE X b σ H1 fun y H2 => r x y H2 fun z H3 => ∃ k, z = .bl k ∧ QT k H3) : WT X (.Compare a [op] [b] pos) σ H QT := ⟨_, pt_cmpR ho WE.pe WE.pe hm, h⟩
theorem t_chain {op op' : CmpOp} {r' : R2} (ho : OpR X (compareOp op) r) (ho' : OpR X (compareOp op') r') (hm : lastMarks [op, op'] [b, c] = false := by with_unfolding_all rfl) (h : WE X a σ H fun x H1 => WE X b σ H1 fun y H2 => r x y H2 fun z H3 => ∃ k, z = .bl k ∧ (if k = true then WE X c σ H3 (fun w H4 => r' y w H4 fun z H5 => ∃ k, z = .bl k ∧ QT k H5) else ∃ k', V.bl false = .bl k' ∧ QT k' H3)) : WT X (.Compare a [op, op'] [b, c] pos) σ H QT := ⟨_, pt_chain ho ho' WE.pe WE.pe WE.pe hm, by
    show WE X a σ H fun x H1 => WE X b σ H1 fun y H2 => r x y H2 fun z H3 => ∃ k, z = .bl k ∧ (if k = true then WE X c σ H3 (fun w H4 => r' y w H4 fun z H5 => ∃ k, z = .bl k ∧ QT k H5) else (fun (x : V) H' => ∃ k, x = V.bl k ∧ QT k H') (.bl false) H3)
    exact h⟩
theorem t_not (h : WT X a σ H fun k H1 => QT (!k) H1) : WT X (.UnaryOp .Not a pos) σ H QT := ⟨_, pt_not WT.pt, h⟩
theorem t_wb (h : WB X e σ H QT) : WT X e σ H QT := ⟨_, WB.pw.pt, h⟩
theorem b_and {rest : List Expr} (h : WT X a σ H fun k H1 => if k = true then WB X (.BoolOp .And (b :: rest) pos) σ H1 QT else QT false H1) : WB X (.BoolOp .And (a :: b :: rest) pos) σ H QT := ⟨_, pw_and WT.pt WB.pw, h⟩
theorem b_or {rest : List Expr} (h : WT X a σ H fun k H1 => if k = true then QT true H1 else WB X (.BoolOp .Or (b :: rest) pos) σ H1 QT) : WB X (.BoolOp .Or (a :: b :: rest) pos) σ H QT := ⟨_, pw_or WT.pt WB.pw, h⟩
theorem b_and1 (h : WT X a σ H QT) : WB X (.BoolOp .And [a] pos) σ H QT := ⟨_, pw_and1 WT.pt, h⟩
theorem b_or1 (h : WT X a σ H QT) : WB X (.BoolOp .Or [a] pos) σ H QT := ⟨_, pw_or1 WT.pt, h⟩

/-! ### targets -/
theorem g_name (i : Nat) {QG : L2.St → Hp → Prop} (hN : X.N.Nodup) (hi : X.N[i]? = some x := by rfl) (hx : Loc X.env.scope x := by first | exact Or.inl rfl | exact Or.inr rfl) (hf : X.fn x = true ∨ X.env.scope.names.lookup x = some .local := by first | exact .inl rfl | exact .inr rfl | assumption) (q : QG (σ.set i (some v)) H) : WG X (.Name x pos) v σ H QG := ⟨_, pg_name hN hi hx hf, q⟩
theorem gs_nil {QG : L2.St → Hp → Prop} (q : QG σ H) : WGs X [] [] σ H QG := ⟨_, pgs_nil, rfl, q⟩
theorem gs_cons {QG : L2.St → Hp → Prop} {vs : List V} (hs : (assignEach (e :: es) X.env).map (·.2) = assign e X.env :: (assignEach es X.env).map (·.2) := by rfl) (h : WG X e v σ H fun σ' H' => WGs X es vs σ' H' QG) : WGs X (e :: es) (v :: vs) σ H QG := ⟨_, pgs_cons WG.pg WGs.pgs hs, v, vs, rfl, h⟩
theorem g_tup {QG : L2.St → Hp → Prop} {k n : Nat} {p : Addr} {vs : List V} (hq : SqT X.K H p vs) (hl : vs.length = n) (hc : X.calm = true := by rfl) (hn : (assignEach es X.env).length = n := by rfl) (hst : (assignEach es X.env).findIdx? (·.1) = none := by rfl) (h : WGs X es vs σ H QG) : WG X (.Tuple es k pos) (.ref p) σ H QG := ⟨_, pg_tup hc WGs.pgs hn hst, p, vs, rfl, hq, hl, h⟩

/-! ### statements -/
variable {D : Ends} {st : Stmt} {rest body orelse : List Stmt}
theorem s_nil (q : D.nx σ H) : WSs X [] D σ H := ⟨_, pss_nil, q⟩
theorem s_cons (h : WS X st { D with nx := WSs X rest D } σ H) : WSs X (st :: rest) D σ H := ⟨_, pss_cons WS.ps WSs.pss, h⟩
theorem s_one (h : WS X st D σ H) : WSs X [st] D σ H := ⟨_, pss_one WS.ps, h⟩
theorem s_pass (q : D.nx σ H) : WS X (.Pass pos) D σ H := ⟨_, ps_pass, q⟩
theorem s_break (q : D.bk σ H) : WS X (.Break pos) D σ H := ⟨_, ps_break, q⟩
theorem s_cont (q : D.ct σ H) : WS X (.Continue pos) D σ H := ⟨_, ps_continue, q⟩
theorem s_expr (hs : swapsWith e none pos.line X.env = pure false := by rfl) (h : WE X e σ H fun _ H1 => D.nx σ H1) : WS X (.Expr e pos) D σ H := ⟨_, ps_expr WE.pe hs, h⟩
theorem s_ret (h : WE X e σ H D.rt) : WS X (.Return (some e) pos) D σ H := ⟨_, ps_ret WE.pe, h⟩
theorem s_retN (h : D.rt .non H) : WS X (.Return none pos) D σ H := ⟨_, ps_retN, h⟩
theorem s_if (h : WT X c σ H fun k H1 => if k = true then WSs X body D σ H1 else WSs X orelse D σ H1) : WS X (.If c body orelse pos) D σ H := ⟨_, ps_if WT.pt WSs.pss WSs.pss, h⟩
theorem s_set (i : Nat) (hN : X.N.Nodup) (hi : X.N[i]? = some x := by rfl) (hx : Loc X.env.scope x := by first | exact Or.inl rfl | exact Or.inr rfl) (hs : swapsWith e (some (.Name x p2)) pos.line X.env = pure false := by rfl)
    (hf : X.fn x = true ∨ X.env.scope.names.lookup x = some .local := by first | exact .inl rfl | exact .inr rfl | assumption) (h : WE X e σ H fun v H1 => D.nx (σ.set i (some v)) H1) : WS X (.Assign [.Name x p2] e pos) D σ H := ⟨_, ps_set hN hi hx WE.pe hs hf, h⟩
theorem s_asg {tg : Expr} (hs : swapsWithSole [tg] e pos.line X.env = pure false := by rfl) (hw : swappedStores [tg] e X.env = pure none := by rfl) (h1 : (assignEach [tg] X.env).map (·.2) = [assign tg X.env] := by rfl)
    (h : WE X e σ H fun v H1 => WG X tg v σ H1 D.nx) : WS X (.Assign [tg] e pos) D σ H := ⟨_, ps_asg WE.pe WG.pg hs hw h1, h⟩
theorem s_par (i j : Nat) {x y : Str} {px py pt : Pos} {kt k2 pt2} (hN : X.N.Nodup) (hij : i ≠ j := by decide) (hc : X.calm = true := by rfl) (hi : X.N[i]? = some x := by rfl) (hj : X.N[j]? = some y := by rfl)
    (hx : X.env.scope.names.lookup x = some .local := by rfl) (hy : X.env.scope.names.lookup y = some .local := by rfl) (hw : swappedStores [.Tuple [.Name x px, .Name y py] kt pt] (.Tuple [a, b] k2 pt2) X.env = pure (some [x, y]) := by rfl)
    (hs : swapsWithSole [.Tuple [.Name x px, .Name y py] kt pt] (.Tuple [a, b] k2 pt2) pos.line X.env = pure false := by rfl)
    (h : WA X [a, b] σ H fun vs H1 => ∃ v w, vs = [v, w] ∧ D.nx ((σ.set i (some v)).set j (some w)) H1) : WS X (.Assign [.Tuple [.Name x px, .Name y py] kt pt] (.Tuple [a, b] k2 pt2) pos) D σ H := ⟨_, ps_par hc hN hi hj hij hx hy WA.pa hw hs, h⟩
theorem s_never (h : False) : WS X st D σ H := h.elim
theorem s_fld {f : Str} {o value : Expr} {pos' : Pos} (hs : swapsWith value (some (.Attribute o f pos')) pos.line X.env = pure false := by rfl) (h : sFld X.K (WE X o) (WE X value) f D σ H) : WS X (.Assign [.Attribute o f pos'] value pos) D σ H := ⟨_, ps_fld WE.pe WE.pe hs, h⟩
theorem s_sub {o i value : Expr} {spos : Pos} (h : WE X value σ H fun v H1 => WE X o σ H1 fun ov H2 => WE X i σ H2 fun iv H3 => ∃ p xs k j, ov = .ref p ∧ iv = .int k ∧ H3 p = some (.lst xs) ∧ ixN xs.length k = some j ∧ D.nx σ (upd H3 p (.lst (xs.set j v))))
    (ha : ∀ v, assign (.Subscript o i spos) X.env v = (do
      let ov ← holding [v] (eval o X.env)
      let iv ← holding [v, ov] (eval i X.env)
      standAt spos
      holding [v, ov, iv] (setItem ov iv v)
      release [v, ov, iv] []) := by intro _; rfl)
    (hs : swapsWithSole [.Subscript o i spos] value pos.line X.env = pure false := by rfl) (hw : swappedStores [.Subscript o i spos] value X.env = pure none := by rfl) (h1 : (assignEach [.Subscript o i spos] X.env).map (·.2) = [assign (.Subscript o i spos) X.env] := by rfl) :
    WS X (.Assign [.Subscript o i spos] value pos) D σ H := ⟨_, ps_asg WE.pe (pg_sub WE.pe WE.pe set_list ha) hs hw h1, h⟩

/-! ### loops -/
variable {tg iter : Expr}
def tForR (J : It) (g : TG) (tb : TS) (D : Ends) (σ : L2.St) (H : Hp) : Prop := ∃ W : Nat → Nat → L2.St → Hp → Prop, (∃ m, W 0 m σ H) ∧ ∀ i m σ H, W i m σ H →
  (J.stop i H ∧ D.nx σ H) ∨ (J.go i H ∧ ∃ N : L2.St → Hp → Prop, (∀ σ' H', N σ' H' → ∃ m', m' < m ∧ W (i + 1) m' σ' H') ∧ ∀ x H', J.yld i H x H' → g x σ H' fun σ2 H2 => tb { D with nx := N, ct := N, bk := D.nx } σ2 H2)
theorem s_for (hp : PassesOwn (model X.prog X.w) X.A X.env X.xe := by exact PassesOwn.never) (hc : X.calm = true := by rfl) (hs : ∀ x, foldedSetIterable iter X.env x = pure x := by intro _; rfl)
    (h : WI X tg iter σ H fun J H1 => tForR J (WG X tg) (WSs X body) D σ H1) : WS X (.For tg iter body [] pos) D σ H := ⟨_, ps_for hp hc WI.pi WG.pg WSs.pss hs, h⟩
variable {R : It → Hp → Prop}
theorem i_list (h : WE X e σ H fun x H1 => ∃ a, x = .ref a ∧ (∃ xs, SqL X.K H1 a xs) ∧ R (Itl X.K a) H1) : WI X tg e σ H R := ⟨_, pi_list WE.pe, h⟩
theorem i_tup (h : WE X e σ H fun x H1 => ∃ a, x = .ref a ∧ (∃ xs, SqT X.K H1 a xs) ∧ R (Itt X.K a) H1) : WI X tg e σ H R := ⟨_, pi_tup WE.pe, h⟩
theorem i_rng1 (hm : X.mg "range" = none) (hg : Gl X "range" := by rfl) (hs : starEach [a] X.env = [(false, eval a X.env)] := by rfl) (h : WE X a σ H fun x H1 => ∃ j : Int, x = .int j ∧ -(2 ^ 62) ≤ j ∧ j < 2 ^ 62 ∧ R (Itr 0 j.toNat) H1) : WI X tg (.Call (.Name "range" p2) [a] [] pos) σ H R :=
  ⟨_, pi_range1 hg hm (pa_cons WE.pe pa_nil (by rw [hs]; rfl)) hs, by
    obtain ⟨t, h1, h2⟩ := h
    show WE X a σ H fun x H1 => ∃ j : Int, [x] = [.int j] ∧ -(2 ^ 62) ≤ j ∧ j < 2 ^ 62 ∧ R (Itr 0 j.toNat) H1
    have e : (fun (x : V) (H1 : Hp) => ∃ j : Int, [x] = [V.int j] ∧ -(2 ^ 62) ≤ j ∧ j < 2 ^ 62 ∧ R (Itr 0 j.toNat) H1) = (fun x H1 => ∃ j : Int, x = .int j ∧ -(2 ^ 62) ≤ j ∧ j < 2 ^ 62 ∧ R (Itr 0 j.toNat) H1) := by
      funext x H1
      simp only [List.cons.injEq, and_true]
    rw [e]
    exact ⟨t, h1, h2⟩⟩
theorem i_rng2 (hm : X.mg "range" = none) (hg : Gl X "range" := by rfl) (hs : starEach [a, b] X.env = [(false, eval a X.env), (false, eval b X.env)] := by rfl) (hs2 : starEach [b] X.env = [(false, eval b X.env)] := by rfl)
    (h : WA X [a, b] σ H fun vs H1 => ∃ i j : Int, vs = [.int i, .int j] ∧ (-(2 ^ 62) ≤ i ∧ i < 2 ^ 62 ∧ -(2 ^ 62) ≤ j ∧ j < 2 ^ 62) ∧ R (Itr i (j - i).toNat) H1) : WI X tg (.Call (.Name "range" p2) [a, b] [] pos) σ H R := ⟨_, pi_range2 hg hm WA.pa hs hs2, h⟩
theorem i_enum {elts : List Expr} {kk : Nat} {tpos : Pos} (hm : X.mg "enumerate" = none) (hg : Gl X "enumerate" := by rfl) (hs : starEach [a] X.env = [(false, eval a X.env)] := by rfl)
    (h : WA X [a] σ H fun vs H1 => ∃ p xs, vs = [.ref p] ∧ SqL X.K H1 p xs ∧ R (Ite X.K p) H1) : WI X (.Tuple elts kk tpos) (.Call (.Name "enumerate" p2) [a] [] pos) σ H R := ⟨_, pi_enum hg hm WA.pa hs, h⟩
theorem i_zip {elts : List Expr} {kk : Nat} {tpos : Pos} (hm : X.mg "zip" = none) (hg : Gl X "zip" := by rfl) (hs : starEach [a, b] X.env = (false, eval a X.env) :: starEach [b] X.env := by rfl) (hpl : (backTo pos (starEach [b] X.env)).any (·.1) = false := by rfl)
    (h : WA X [a, b] σ H fun vs H1 => ∃ p q xs ys, vs = [.ref p, .ref q] ∧ SqL X.K H1 p xs ∧ SqL X.K H1 q ys ∧ R (Itz X.K p q) H1) : WI X (.Tuple elts kk tpos) (.Call (.Name "zip" p2) [a, b] [] pos) σ H R := ⟨_, pi_zip hg hm WA.pa hs hpl, h⟩

/-! ### comprehensions: the block's rules are left open, too -/
def GBlk (X : Cx) (scope : Scope) (tg : Expr) : TG := fun v σ H Q => ∀ (s : Shared) (H0 : Hp) (C : Addr) (cl : List (Str × Addr)) (fp : List Addr), WG (X.blk s H0 scope (compEnvC scope cl C X.env) fp) tg v σ H Q
def TBlk (X : Cx) (scope : Scope) (ifs : List Expr) : TT := fun σ H Q => ∀ (s : Shared) (H0 : Hp) (C : Addr) (cl : List (Str × Addr)) (fp : List Addr), WTs (X.blk s H0 scope (compEnvC scope cl C X.env) fp) ifs σ H Q
def EBlk (X : Cx) (scope : Scope) (elt : Expr) : TE := fun σ H Q => ∀ (s : Shared) (H0 : Hp) (C : Addr) (cl : List (Str × Addr)) (fp : List Addr), WE (X.blk s H0 scope (compEnvC scope cl C X.env) fp) elt σ H Q
def tLcR (J : It) (g : TG) (tt : TT) (te : TE) (vs : List Nat) (σ : L2.St) (H1 : Hp) (D : Addr) (Qd : Hp → Prop) : Prop := ∃ W : Nat → Nat → Hp → Prop, (∃ m, W 0 m (upd H1 D (.lst []))) ∧ ∀ i m H, W i m H →
  (J.stop i H ∧ Qd H) ∨ (J.go i H ∧ ∃ Nx : Hp → Prop, (∀ H', Nx H' → ∃ m', m' < m ∧ W (i + 1) m' H') ∧ ∀ x H', J.yld i H x H' → g x (wipe σ vs) H' fun σ2 H2 => wipe σ2 vs = wipe σ vs ∧ tt σ2 H2 fun b H3 =>
    if b = true then te σ2 H3 fun y H4 => ∃ acc, H4 D = some (.lst acc) ∧ acc.length < sizeLine ∧ Nx (upd H4 D (.lst (acc ++ [y]))) else Nx H3)
variable {elt : Expr} {ifs : List Expr} {scope : Scope}
theorem blk_g : ∀ (s : Shared) (H : Hp) (C : Addr) (cl : List (Str × Addr)) (fp : List Addr), PG (X.blk s H scope (compEnvC scope cl C X.env) fp) tg (GBlk X scope tg) := fun s H0 C cl fp => ⟨fun pins s' σ H v u Q I r h => WG.pg.run pins s' σ H v u Q I r (h s H0 C cl fp)⟩
theorem blk_t : ∀ (s : Shared) (H : Hp) (C : Addr) (cl : List (Str × Addr)) (fp : List Addr), PTs (X.blk s H scope (compEnvC scope cl C X.env) fp) ifs (TBlk X scope ifs) := fun s H0 C cl fp => ⟨fun pins s' σ H Q I h => WTs.pts.run pins s' σ H Q I (h s H0 C cl fp)⟩
theorem blk_e : ∀ (s : Shared) (H : Hp) (C : Addr) (cl : List (Str × Addr)) (fp : List Addr), PE (X.blk s H scope (compEnvC scope cl C X.env) fp) elt (EBlk X scope elt) := fun s H0 C cl fp => ⟨fun pins s' σ H Q I h => WE.pe.run pins s' σ H Q I (h s H0 C cl fp)⟩
theorem ts_nil (q : QT true H) : WTs X [] σ H QT := ⟨_, pts_nil, q⟩
theorem ts_one (h : WT X c σ H QT) : WTs X [c] σ H QT := ⟨_, pts_one WT.pt, h⟩
theorem e_lc (own : List (Str × Nat)) (hN : X.N.Nodup) (ok : BlkOk X.N X.env.scope scope own := by exact blkOk_by (by decide +kernel)) (hc : X.calm = true := by rfl) (hs : ∀ x, foldedSetIterable iter X.env x = pure x := by intro _; rfl)
    (h : WI X tg iter σ H fun J H1 => ∀ D, H1 D = none → tLcR J (GBlk X scope tg) (TBlk X scope ifs) (EBlk X scope elt) (own.map (·.2)) σ H1 D (Q (.ref D))) : WE X (.ListComp elt [⟨tg, iter, ifs, 0⟩] scope pos) σ H Q :=
  ⟨_, pe_lc hc hN WI.pi ok blk_g blk_t blk_e hs, h⟩
theorem s_setLc (i : Nat) (own : List (Str × Nat)) (hN : X.N.Nodup) {y : Str} (hy : X.N[i]? = some y := by rfl) (hyl : X.env.scope.names.lookup y = some .local := by rfl)
    (ok : BlkOk X.N X.env.scope scope own := by exact blkOk_by (by decide +kernel)) (hc : X.calm = true := by rfl) (hs : ∀ x, foldedSetIterable iter X.env x = pure x := by intro _; rfl)
    {spos : Pos} (hsw2 : swapsWith (.ListComp elt [⟨tg, iter, ifs, 0⟩] scope pos) (some (.Name y p2)) spos.line X.env = pure true := by exact sw_true rfl rfl rfl (by decide +kernel))
    (h : WI X tg iter σ H fun J H1 => ∀ D, H1 D = none → tLcR J (GBlk X scope tg) (TBlk X scope ifs) (EBlk X scope elt) (own.map (·.2)) σ H1 D (fun H2 => D'.nx (σ.set i (some (.ref D))) H2)) : WS X (.Assign [.Name y p2] (.ListComp elt [⟨tg, iter, ifs, 0⟩] scope pos) spos) D' σ H :=
  ⟨_, ps_setLc hc hN hy hyl hsw2 WI.pi ok blk_g blk_t blk_e hs, h⟩
end
end Lw
namespace Lw
open PySem PySem.Spec L2 Evl

/-! ### calls -/
/-- a def of the module that keeps a promise and lets nothing out -/
structure Cal (P : Program) (w : World) (K : PySem.W.Frag) (mg : Str → Option Value) (base : Heap) (x : Str) (k : Nat) (ps : List Str) (sp : Sp) : Prop where
  ex : ∃ f fd, FnOk P w K mg base CX0 k f fd ps sp ∧ mg x = some (.ref f) ∧ PySem.W.keepIn K (.ref f) = true ∧ Binds K fd ps []
/-- .. called by keywords alone -/
structure CalK (P : Program) (w : World) (K : PySem.W.Frag) (mg : Str → Option Value) (base : Heap) (x : Str) (k : Nat) (ps ks : List Str) (gV : List V → List V) (sp : Sp) : Prop where
  ex : ∃ f fd g, FnOk P w K mg base CX0 k f fd ps sp ∧ mg x = some (.ref f) ∧ PySem.W.keepIn K (.ref f) = true ∧ KBn K fd ps 0 ks g (fun _ zs => gV zs)
section
variable {X : Cx} {σ : L2.St} {H : Hp} {Q : VK} {a b c e o : Expr} {pos p2 apos : Pos} {x m : Str} {v : V} {es : List Expr} {k : Nat} {ps ks : List Str} {sp : Sp} {gV : List V → List V}
theorem e_call (cl : Cal X.prog X.w X.K X.mg X.base x k ps sp) (hr : Room k X.A) (hg : Gl X x := by rfl) (hdb : (x == ("__debug__" : Str)) = false := by decide) (he : starEach (e :: es) X.env = (false, eval e X.env) :: starEach es X.env := by rfl) (hpl : (backTo pos (starEach es X.env)).any (·.1) = false := by rfl)
    (h : WA X (e :: es) σ H fun vs H1 => sp vs H1 Q E0) : WE X (.Call (.Name x p2) (e :: es) [] pos) σ H Q := by
  obtain ⟨f, fd, F, hm, hk, hb⟩ := cl.ex
  refine ⟨_, pe_call F hr hg hm hk hb .nil pass0 WA.pa hdb he hpl, ?_⟩
  show WA X (e :: es) σ H fun vs H1 => sp (vs ++ []) H1 Q E0
  simp only [List.append_nil]
  exact h
theorem e_call0 (cl : Cal X.prog X.w X.K X.mg X.base x k ps sp) (hr : Room k X.A) (hg : Gl X x := by rfl) (hdb : (x == ("__debug__" : Str)) = false := by decide)
    (h : sp [] H Q E0) : WE X (.Call (.Name x p2) [] [] pos) σ H Q := by
  obtain ⟨f, fd, F, hm, hk, hb⟩ := cl.ex
  exact ⟨_, pe_call0 F hr hg hm hk hb .nil pass0 hdb, h⟩
theorem pe_callN0 {CX : CXT} {f : Addr} {fd : FuncData} {E : XK} {kws : List Keyword} {tk : TA} {g : List Value → List Value → List Value} {gW : List V → List V → List V} (F : FnOk X.prog X.w X.K X.mg X.base CX k f fd ps sp) (hr : Room k X.A) (hg : Gl X x) (hm : X.mg x = some (.ref f)) (hk : PySem.W.keepIn X.K (.ref f) = true) (hb : KBn X.K fd ps 0 ks g gW) (hx : Passes CX X E)
    (hkw : PK X kws tk) (hall : (backToKw pos (keywordEach kws X.env)).all (·.1.isSome) = true := by rfl) (hks : (backToKw pos (keywordEach kws X.env)).filterMap (·.1) = ks := by rfl)
    (hdb : (x == ("__debug__" : Str)) = false := by decide)
    (hpl : ((backTo pos (starEach [] X.env)).any (·.1) || (backToKw pos (keywordEach kws X.env)).any (·.1.isNone)) = false := by rfl) :
    PE X (.Call (.Name x p2) [] kws pos) (tCallN 0 ks.length sp gW E tNil tk) := by
  refine ⟨fun pins s σ H Q I h => ?_⟩
  refine wpAny_Call_Name_kw (ld_glob I hg hm ?_ hdb)
  refine PySem.W.callWith_KW0 (h₀ := X.base) I.ok.mod.kin hk hall ?_ hpl
  refine thn (hkw.run pos pins s σ H _ I h) fun ws s2 ⟨zs, H2, I2, rz, l1, l2, q2⟩ => ⟨I2.kIn, ?_⟩
  rw [hks]
  exact run_fnN (us := []) (vs := []) F hr hb hx I2 .nil rz rfl l2 q2
theorem e_callK {kws : List Keyword} (cl : CalK X.prog X.w X.K X.mg X.base x k ps ks gV sp) (hr : Room k X.A) (hg : Gl X x := by rfl) (hdb : (x == ("__debug__" : Str)) = false := by decide)
    (hall : (backToKw pos (keywordEach kws X.env)).all (·.1.isSome) = true := by rfl) (hks : (backToKw pos (keywordEach kws X.env)).filterMap (·.1) = ks := by rfl)
    (hpl : ((backTo pos (starEach [] X.env)).any (·.1) || (backToKw pos (keywordEach kws X.env)).any (·.1.isNone)) = false := by rfl)
    (h : WK X kws σ H fun zs H1 => ([] : List V).length = 0 ∧ zs.length = ks.length ∧ sp (gV zs) H1 Q E0) : WE X (.Call (.Name x p2) [] kws pos) σ H Q := by
  obtain ⟨f, fd, g, F, hm, hk, hb⟩ := cl.ex
  exact ⟨_, pe_callN0 F hr hg hm hk hb pass0 WK.pk hall hks hdb hpl, h⟩
end
/-- a method of the class at C | its __init__ | a property -/
structure CalM (P : Program) (w : World) (K : PySem.W.Frag) (mg : Str → Option Value) (base : Heap) (C : Addr) (m : Str) (k : Nat) (ps : List Str) (sp : Sp) : Prop where
  ex : ∃ f fd, FnOk P w K mg base CX0 k f fd ps sp ∧ Cls K C ∧ Meth K C m f ∧ Binds K fd ps []
structure CalI (P : Program) (w : World) (K : PySem.W.Frag) (mg : Str → Option Value) (base : Heap) (C : Addr) (x : Str) (k : Nat) (ps : List Str) (sp : Sp) : Prop where
  ex : ∃ f fd, FnOk P w K mg base CX0 k f fd ps sp ∧ mg x = some (.ref C) ∧ Mk K C f ∧ Binds K fd ps []
structure CalP (P : Program) (w : World) (K : PySem.W.Frag) (mg : Str → Option Value) (base : Heap) (C : Addr) (m : Str) (k : Nat) (sp : Sp) : Prop where
  ex : ∃ p g fd ps, FnOk P w K mg base CX0 k g fd ps sp ∧ Cls K C ∧ PropOf K C m p g ∧ Binds K fd ps []
section
variable {X : Cx} {σ : L2.St} {H : Hp} {Q : VK} {a b c e o : Expr} {pos p2 apos : Pos} {x m : Str} {v : V} {es : List Expr} {k : Nat} {ps ks : List Str} {sp : Sp} {C : Addr}
theorem e_meth {pl : Sem Bool} (cl : CalM X.prog X.w X.K X.mg X.base C m k ps sp) (hr : Room k X.A)
    (hst : starEach (e :: es) X.env = (false, eval e X.env) :: starEach es X.env := by rfl) (hpl : (backTo pos (starEach es X.env)).any (·.1) = false := by rfl)
    (ht : eval (.Call (.Attribute o m apos) (e :: es) [] pos) X.env = (do
      let ov ← eval o X.env
      standAt apos.atName
      let (f, first) ← holding [ov] (getMethod ov m pl)
      callWith pos f first (backTo pos (starEach (e :: es) X.env)) (backToKw pos (keywordEach [] X.env))) := by rfl)
    (h : WE X o σ H fun x H1 => ∃ a dx fs, x = .ref a ∧ H1 a = some (.ins C dx fs) ∧ fs.lookup m = none ∧ WA X (e :: es) σ H1 fun vs H2 => sp (x :: vs) H2 Q E0) : WE X (.Call (.Attribute o m apos) (e :: es) [] pos) σ H Q := by
  obtain ⟨f, fd, F, hc, hm, hb⟩ := cl.ex
  refine ⟨_, pe_meth (pl := pl) WE.pe hc hm F hr hb .nil pass0 WA.pa hst hpl ht, ?_⟩
  show WE X o σ H fun x H1 => ∃ a dx fs, x = .ref a ∧ H1 a = some (.ins C dx fs) ∧ fs.lookup m = none ∧ WA X (e :: es) σ H1 fun vs H2 => sp (x :: (vs ++ [])) H2 Q E0
  simp only [List.append_nil]
  exact h
theorem e_meth0 {pl : Sem Bool} (cl : CalM X.prog X.w X.K X.mg X.base C m k ps sp) (hr : Room k X.A)
    (ht : eval (.Call (.Attribute o m apos) [] [] pos) X.env = (do
      let ov ← eval o X.env
      standAt apos.atName
      let (f, first) ← holding [ov] (getMethod ov m pl)
      callWith pos f first (backTo pos (starEach [] X.env)) (backToKw pos (keywordEach [] X.env))) := by rfl)
    (h : WE X o σ H fun x H1 => ∃ a dx fs, x = .ref a ∧ H1 a = some (.ins C dx fs) ∧ fs.lookup m = none ∧ sp [x] H1 Q E0) : WE X (.Call (.Attribute o m apos) [] [] pos) σ H Q := by
  obtain ⟨f, fd, F, hc, hm, hb⟩ := cl.ex
  exact ⟨_, pe_meth0 (pl := pl) WE.pe hc hm F hr hb .nil pass0 ht, h⟩
theorem e_make (cl : CalI X.prog X.w X.K X.mg X.base C x k ps sp) (hr : Room (k + 1) X.A) (hg : Gl X x := by rfl) (hdb : (x == ("__debug__" : Str)) = false := by decide) (he : starEach (e :: es) X.env = (false, eval e X.env) :: starEach es X.env := by rfl) (hpl : (backTo pos (starEach es X.env)).any (·.1) = false := by rfl)
    (h : WA X (e :: es) σ H fun vs H1 => ∀ x dx, H1 x = none → H1 dx = none → dx ≠ x → sp (.ref x :: vs) (upd (upd H1 dx (.own x)) x (.ins C dx [])) (fun v H2 => v = .non ∧ Q (.ref x) H2) E0) : WE X (.Call (.Name x p2) (e :: es) [] pos) σ H Q := by
  obtain ⟨f, fd, F, hm, hM, hb⟩ := cl.ex
  refine ⟨_, pe_make hM F hr hg hm hb .nil pass0 WA.pa hdb he hpl, ?_⟩
  show WA X (e :: es) σ H fun vs H1 => ∀ x dx, H1 x = none → H1 dx = none → dx ≠ x → sp (.ref x :: (vs ++ [])) (upd (upd H1 dx (.own x)) x (.ins C dx [])) (fun v H2 => v = .non ∧ Q (.ref x) H2) E0
  simp only [List.append_nil]
  exact h
theorem e_prop (cl : CalP X.prog X.w X.K X.mg X.base C m k sp) (hr : Room (k + 1) X.A) (hab : attributeBase e m X.env (eval e X.env) = eval e X.env := by rfl)
    (h : WE X e σ H fun x H1 => ∃ a dx fs, x = .ref a ∧ H1 a = some (.ins C dx fs) ∧ sp [.ref a] H1 Q E0) : WE X (.Attribute e m pos) σ H Q := by
  obtain ⟨p, g, fd, ps, F, hc, hp, hb⟩ := cl.ex
  exact ⟨_, pe_prop WE.pe hc hp F hr hb .nil pass0 hab, h⟩
end

/-! ### what is known, and what grows -/
abbrev M0 : Addr → Prop := fun _ => False
/-- B: objects that nobody changes any more; H: all that is tracked. Those in M may change -/
structure Gr (M : Addr → Prop) (B H B' H' : Hp) : Prop where
  b : Ex B B'
  k : Ex B' H'
  h : ∀ a o, ¬ M a → H a = some o → H' a = some o
  n : ∀ a, H a ≠ none → H' a ≠ none
  f : ∀ a, B a = none → H a ≠ none → B' a = none
section
variable {M : Addr → Prop} {B H B1 H1 B2 H2 : Hp} {p : Addr} {o : HO}
theorem Gr.refl (k : Ex B H) : Gr M B H B H := ⟨.refl B, k, fun _ _ _ h => h, fun _ h => h, fun _ h _ => h⟩
theorem Gr.trans (x : Gr M B H B1 H1) (y : Gr M B1 H1 B2 H2) : Gr M B H B2 H2 :=
  ⟨x.b.trans y.b, y.k, fun a o m h => y.h a o m (x.h a o m h), fun a h => y.n a (x.n a h), fun a h1 h2 => y.f a (x.f a h1 h2) (x.n a h2)⟩
theorem Gr.weak {M' : Addr → Prop} (x : Gr M B H B1 H1) (h : ∀ a, M a → M' a) : Gr M' B H B1 H1 := ⟨x.b, x.k, fun a o m => x.h a o fun z => m (h a z), x.n, x.f⟩
theorem Gr.up (x : Gr M0 B H B1 H1) : Gr M B H B1 H1 := x.weak fun _ z => z.elim
theorem Gr.ex (x : Gr M0 B H B1 H1) : Ex H H1 := fun a o h => x.h a o (fun z => z) h
theorem none_of_ex (k : Ex B H) (h : H p = none) : B p = none := fresh_back k h
theorem Gr.free (x : Gr M B H B1 H1) (h : H1 p = none) : H p = none := by
  cases q : H p with
  | none => rfl
  | some o => exact absurd h (x.n p (by rw [q]; exact fun z => nomatch z))
theorem upd_none {a : Addr} (h : upd H p o a = none) : H a = none := by
  unfold upd at h
  split at h
  · cases h
  · exact h
theorem upd_nn {a : Addr} (h : H a ≠ none) : upd H p o a ≠ none := fun z => h (upd_none z)
/-- a new object, the owner's -/
theorem Gr.own (x : Gr M B H B1 H1) (hp : H1 p = none) : Gr M B H B1 (upd H1 p o) :=
  ⟨x.b, x.k.trans (Ex.new hp), fun a u m h => by rw [upd_ne (ne_of_none (x.h a u m h) hp)]; exact x.h a u m h, fun a h => upd_nn (x.n a h), x.f⟩
/-- a new object that stays -/
theorem Gr.new (x : Gr M B H B1 H1) (hp : H1 p = none) : Gr M B H (upd B1 p o) (upd H1 p o) := by
  have hb := none_of_ex x.k hp
  refine ⟨x.b.trans (Ex.new hb), fun a u h => ?_, (x.own hp).h, (x.own hp).n, fun a h1 h2 => ?_⟩
  · by_cases e : a = p
    · subst e
      rw [upd_same] at h ⊢
      exact h
    · rw [upd_ne e] at h ⊢
      exact x.k a u h
  · have ne : a ≠ p := fun e => x.n a h2 (e ▸ hp)
    rw [upd_ne ne]
    exact x.f a h1 h2
/-- what the owner does not change any more -/
theorem Gr.learn (x : Gr M B H B1 H1) (h0 : H p = none) (hb : B1 p = none) (hp : H1 p = some o) : Gr M B H (upd B1 p o) H1 := by
  refine ⟨x.b.trans (Ex.new hb), fun a u h => ?_, x.h, x.n, fun a h1 h2 => ?_⟩
  · by_cases e : a = p
    · subst e
      rw [upd_same] at h
      cases h
      exact hp
    · rw [upd_ne e] at h
      exact x.k a u h
  · have ne : a ≠ p := fun e => h2 (e ▸ h0)
    rw [upd_ne ne]
    exact x.f a h1 h2
/-- the owner changes its own -/
theorem Gr.mut (x : Gr M B H B1 H1) (h0 : M p ∨ H p = none) (hb : B1 p = none) : Gr M B H B1 (upd H1 p o) := by
  refine ⟨x.b, fun a u h => ?_, fun a u m h => ?_, fun a h => upd_nn (x.n a h), x.f⟩
  · have ne : a ≠ p := fun e => by rw [e, hb] at h; cases h
    rw [upd_ne ne]
    exact x.k a u h
  · have ne : a ≠ p := fun e => by
      subst e
      rcases h0 with z | z
      · exact m z
      · rw [z] at h; cases h
    rw [upd_ne ne]
    exact x.h a u m h
end

/-! ### data -/
class Dat (α : Type) [DecidableEq α] where
  toD : α → PyData
  lay : ∀ a, (toD a).canLay0 = true
  eqv : ∀ a b, PyData.eqv (toD a) (toD b) = decide (a = b)
  dep : Nat
  dep_le : ∀ a, (toD a).depth ≤ dep
theorem beq_dec {α : Type} [BEq α] [LawfulBEq α] [DecidableEq α] (a b : α) : (a == b) = decide (a = b) := by
  rw [Bool.eq_iff_iff, beq_iff_eq, decide_eq_true_eq]
instance : Dat Int where
  toD := .int
  lay _ := rfl
  eqv a b := by simp only [PyData.eqv]; exact beq_dec a b
  dep := 0
  dep_le _ := Nat.le_refl _
instance : Dat Bool where
  toD := .bool
  lay _ := rfl
  eqv a b := by simp only [PyData.eqv]; exact beq_dec a b
  dep := 0
  dep_le _ := Nat.le_refl _
instance : Dat (Option Int) where
  toD
    | .none => .none
    | .some i => .int i
  lay a := by cases a <;> rfl
  eqv a b := by
    cases a <;> cases b <;> simp only [PyData.eqv]
    · rfl
    · rfl
    · rfl
    · rw [beq_dec]
      exact decide_eq_decide.mpr ⟨fun e => by rw [e], fun e => Option.some.inj e⟩
  dep := 0
  dep_le a := by cases a <;> exact Nat.le_refl _
section
variable {α β : Type} [DecidableEq α] [Dat α] [DecidableEq β] [Dat β]
theorem layAll_map : ∀ xs : List α, PyData.canLayAll0 (xs.map Dat.toD) = true
  | [] => rfl
  | x :: xs => by
    rw [List.map_cons, PyData.canLayAll0, Dat.lay x, layAll_map xs]
    rfl
theorem depAll_map : ∀ xs : List α, PyData.depthAll (xs.map Dat.toD) ≤ Dat.dep α
  | [] => Nat.zero_le _
  | x :: xs => by
    rw [List.map_cons, PyData.depthAll]
    exact Nat.max_le.mpr ⟨Dat.dep_le x, depAll_map xs⟩
theorem eqvAll_dat : ∀ xs ys : List α, PyData.eqvAll (xs.map Dat.toD) (ys.map Dat.toD) = decide (xs = ys)
  | [], [] => by simp only [List.map_nil, PyData.eqvAll, decide_true]
  | [], _ :: _ => by simp [PyData.eqvAll]
  | _ :: _, [] => by simp [PyData.eqvAll]
  | x :: xs, y :: ys => by
    rw [List.map_cons, List.map_cons, PyData.eqvAll, Dat.eqv x y, eqvAll_dat xs ys, ← Bool.decide_and]
    exact decide_eq_decide.mpr (by rw [List.cons.injEq])
instance : Dat (List α) where
  toD xs := .list (xs.map Dat.toD)
  lay xs := by simp only [PyData.canLay0]; exact layAll_map xs
  eqv xs ys := by simp only [PyData.eqv]; exact eqvAll_dat xs ys
  dep := Dat.dep α + 1
  dep_le xs := by simp only [PyData.depth]; exact Nat.succ_le_succ (depAll_map xs)
instance : Dat (α × β) where
  toD p := .tuple [Dat.toD p.1, Dat.toD p.2]
  lay p := by simp only [PyData.canLay0, PyData.canLayAll0, Dat.lay, Bool.and_self]
  eqv p q := by
    simp only [PyData.eqv, PyData.eqvAll]
    rw [Dat.eqv, Dat.eqv, Bool.and_true, ← Bool.decide_and]
    exact decide_eq_decide.mpr ⟨fun e => Prod.ext e.1 e.2, fun e => by rw [e]; exact ⟨rfl, rfl⟩⟩
  dep := max (Dat.dep α) (Dat.dep β) + 1
  dep_le p := by
    simp only [PyData.depth, PyData.depthAll]
    exact Nat.succ_le_succ (Nat.max_le.mpr ⟨Nat.le_trans (Dat.dep_le p.1) (Nat.le_max_left _ _), Nat.max_le.mpr ⟨Nat.le_trans (Dat.dep_le p.2) (Nat.le_max_right _ _), Nat.zero_le _⟩⟩)
end
mutual
theorem Dp.mono {K : PySem.W.Frag} {B B' : Hp} (e : Ex B B') : ∀ {v : V} {d : PyData}, Dp K B v d → Dp K B' v d
  | _, _, .non => .non
  | _, _, .bl b => .bl b
  | _, _, .int b => .int b
  | _, _, .str b => .str b
  | _, _, .lst h a => .lst (ex_l e h) (DpAll.mono e a)
  | _, _, .tup h a => .tup (ex_t e h) (DpAll.mono e a)
theorem DpAll.mono {K : PySem.W.Frag} {B B' : Hp} (e : Ex B B') : ∀ {vs : List V} {ds : List PyData}, DpAll K B vs ds → DpAll K B' vs ds
  | _, _, .nil => .nil
  | _, _, .cons h a => .cons (Dp.mono e h) (DpAll.mono e a)
end
/-- v is x, as B tells -/
def Dt {α : Type} [DecidableEq α] [Dat α] (K : PySem.W.Frag) (B : Hp) (v : V) (x : α) : Prop := Dp K B v (Dat.toD x)
def Das {α : Type} [DecidableEq α] [Dat α] (K : PySem.W.Frag) (B : Hp) (vs : List V) (xs : List α) : Prop := DpAll K B vs (xs.map Dat.toD)
section
variable {α β : Type} [DecidableEq α] [Dat α] [DecidableEq β] [Dat β] {K : PySem.W.Frag} {B B' H : Hp} {v w : V} {vs ws : List V}
theorem Dt.mono {x : α} (e : Ex B B') (h : Dt K B v x) : Dt K B' v x := Dp.mono e h
theorem Das.mono {xs : List α} (e : Ex B B') (h : Das K B vs xs) : Das K B' vs xs := DpAll.mono e h
theorem dt_int {i : Int} (h : Dt K B v i) : v = .int i := by
  unfold Dt at h
  cases h
  rfl
theorem dt_bl {i : Bool} (h : Dt K B v i) : v = .bl i := by
  unfold Dt at h
  cases h
  rfl
theorem dt_none (h : Dt K B v (none : Option Int)) : v = .non := by
  unfold Dt at h
  cases h
  rfl
theorem dt_some {i : Int} (h : Dt K B v (some i)) : v = .int i := by
  unfold Dt at h
  cases h
  rfl
theorem dtI (i : Int) : Dt K B (.int i) i := Dp.int i
theorem dtB (i : Bool) : Dt K B (.bl i) i := Dp.bl i
theorem dtN : Dt K B .non (none : Option Int) := Dp.non
theorem dtS (i : Int) : Dt K B (.int i) (some i) := Dp.int i
theorem dt_list {xs : List α} (h : Dt K B v xs) : ∃ a vs, v = .ref a ∧ SqL K B a vs ∧ Das K B vs xs := by
  unfold Dt at h
  cases h with
  | lst h1 h2 => exact ⟨_, _, rfl, h1, h2⟩
theorem dtL {a : Addr} {xs : List α} (h : SqL K B a vs) (hs : Das K B vs xs) : Dt K B (.ref a) xs := Dp.lst h hs
theorem dt_pair {x : α × β} (h : Dt K B v x) : ∃ a y z, v = .ref a ∧ SqT K B a [y, z] ∧ Dt K B y x.1 ∧ Dt K B z x.2 := by
  unfold Dt at h
  cases h with
  | tup h1 h2 =>
    cases h2 with
    | cons a b =>
      cases b with
      | cons c d =>
        cases d
        exact ⟨_, _, _, rfl, h1, a, c⟩
theorem dtP {a : Addr} {y z : V} {p : α} {q : β} (h : SqT K B a [y, z]) (h1 : Dt K B y p) (h2 : Dt K B z q) : Dt K B (.ref a) (p, q) := Dp.tup h (.cons h1 (.cons h2 .nil))
theorem Das.nil : Das K B [] ([] : List α) := DpAll.nil
theorem Das.cons {x : α} {xs : List α} (h : Dt K B v x) (hs : Das K B vs xs) : Das K B (v :: vs) (x :: xs) := DpAll.cons h hs
theorem Das.len : ∀ {vs : List V} {xs : List α}, Das K B vs xs → vs.length = xs.length
  | [], [], _ => rfl
  | [], _ :: _, h => by cases h
  | _ :: _, [], h => by cases h
  | _ :: vs, _ :: xs, h => by
    cases h with
    | cons h hs =>
      rw [List.length_cons, List.length_cons, Das.len (show Das K B vs xs from hs)]
theorem Das.get : ∀ {vs : List V} {xs : List α} {i : Nat} {v : V}, Das K B vs xs → vs[i]? = some v → ∃ x, xs[i]? = some x ∧ Dt K B v x
  | [], _, _, _, _, e => by simp at e
  | _ :: _, [], _, _, h, _ => by cases h
  | u :: vs, x :: xs, 0, v, h, e => by
    cases h with
    | cons h hs =>
      have e' : u = v := by simpa using e
      subst e'
      exact ⟨x, rfl, h⟩
  | u :: vs, x :: xs, i + 1, v, h, e => by
    cases h with
    | cons h hs => exact Das.get (i := i) (show Das K B vs xs from hs) (by simpa using e)
theorem Das.at {xs : List α} {i : Nat} {x : α} (h : Das K B vs xs) (e : xs[i]? = some x) : ∃ v, vs[i]? = some v ∧ Dt K B v x := by
  have hl := h.len
  have hi : i < xs.length := (List.getElem?_eq_some_iff.mp e).1
  have hv : vs[i]? = some (vs[i]'(by omega)) := List.getElem?_eq_getElem (by omega)
  obtain ⟨y, e2, d⟩ := h.get hv
  rw [e] at e2
  cases e2
  exact ⟨_, hv, d⟩
theorem Das.app : ∀ {vs : List V} {xs : List α} {ws : List V} {ys : List α}, Das K B vs xs → Das K B ws ys → Das K B (vs ++ ws) (xs ++ ys)
  | [], [], _, _, _, k => k
  | [], _ :: _, _, _, h, _ => by cases h
  | _ :: _, [], _, _, h, _ => by cases h
  | _ :: vs, _ :: xs, _, _, h, k => by
    cases h with
    | cons h hs => exact .cons h (Das.app (show Das K B vs xs from hs) k)
theorem Das.snoc {x : α} {xs : List α} (hs : Das K B vs xs) (h : Dt K B v x) : Das K B (vs ++ [v]) (xs ++ [x]) := hs.app (.cons h .nil)
theorem das_ints : ∀ {ns : List Int}, Das K B (ns.map V.int) ns
  | [] => .nil
  | n :: ns => .cons (dtI n) das_ints
theorem Das.ints : ∀ {vs : List V} {ns : List Int}, Das K B vs ns → vs = ns.map V.int
  | [], [], _ => rfl
  | [], _ :: _, h => by cases h
  | _ :: _, [], h => by cases h
  | v :: vs, n :: ns, h => by
    cases h with
    | cons h hs =>
      rw [List.map_cons, dt_int (show Dt K B v n from h), Das.ints (show Das K B vs ns from hs)]
/-- == and != of data -/
theorem eq_dat {x y : α} {H : Hp} {Q : VK} (hx : Dt K B v x) (hy : Dt K B w y) (k : Ex B H) (hd : Dat.dep α ≤ 64) (q : Q (.bl (decide (x = y))) H) : rEqD K v w H Q :=
  ⟨_, _, Dp.mono k hx, Dp.mono k hy, by unfold SeqAt.shaped; rw [Dat.lay, Bool.true_and]; exact decide_eq_true (Nat.le_trans (Dat.dep_le x) hd), by unfold SeqAt.shaped; rw [Dat.lay, Bool.true_and]; exact decide_eq_true (Nat.le_trans (Dat.dep_le y) hd), by rw [Dat.eqv]; exact q⟩
theorem ne_dat {x y : α} {H : Hp} {Q : VK} (hx : Dt K B v x) (hy : Dt K B w y) (k : Ex B H) (hd : Dat.dep α ≤ 64) (q : Q (.bl (!decide (x = y))) H) : rNeD K v w H Q :=
  ⟨_, _, Dp.mono k hx, Dp.mono k hy, by unfold SeqAt.shaped; rw [Dat.lay, Bool.true_and]; exact decide_eq_true (Nat.le_trans (Dat.dep_le x) hd), by unfold SeqAt.shaped; rw [Dat.lay, Bool.true_and]; exact decide_eq_true (Nat.le_trans (Dat.dep_le y) hd), by rw [Dat.eqv]; exact q⟩
end
end Lw
namespace Lw
open PySem PySem.Spec L2 Evl

/-! ### comprehensions, with what is known -/
section
variable {J : It} {n : Nat} {G : Hp → Prop} {Y : Nat → Hp → V → Hp → Prop} {M : Addr → Prop} {B H1 : Hp} {g : TG} {tt : TT} {te : TE} {vs : List Nat} {σ : L2.St} {D : Addr} {Qd : Hp → Prop}
theorem lcB (w : Walk J n G Y) (S : Nat → Hp → Hp → List V → Prop) (k : Ex B H1) (hD : H1 D = none) (hM : ¬ M D)
    (h0 : S 0 B H1 []) (hst : ∀ i B' H' acc l, B' D = none → S i B' H' acc → S i B' (upd H' D (.lst l)) acc)
    (hG : ∀ i B' H' acc, i ≤ n → Gr M B H1 B' H' → S i B' H' acc → G H')
    (hs : ∀ i x B' H' H'' acc, i < n → Gr M B H1 B' H' → B' D = none → H' D = some (.lst acc) → S i B' H' acc → Y i H' x H'' →
      ∀ (KT : VK) (KF : Hp → Prop), (∀ y B4 H4, Gr M B' H' B4 H4 → acc.length < sizeLine → S (i + 1) B4 H4 (acc ++ [y]) → KT y H4) → (∀ B3 H3, Gr M B' H' B3 H3 → S (i + 1) B3 H3 acc → KF H3) →
      g x (wipe σ vs) H'' fun σ2 H2 => wipe σ2 vs = wipe σ vs ∧ tt σ2 H2 fun b H3 => if b = true then te σ2 H3 KT else KF H3)
    (hd : ∀ B' H' acc, Gr M B H1 B' H' → B' D = none → H' D = some (.lst acc) → S n B' H' acc → Qd H') : tLcR J g tt te vs σ H1 D Qd := by
  have g0 : Gr M B H1 B (upd H1 D (.lst [])) := (Gr.refl k).own hD
  refine lc_it w (fun i H => ∃ B' acc, Gr M B H1 B' H ∧ B' D = none ∧ H D = some (.lst acc) ∧ S i B' H acc) ⟨B, [], g0, none_of_ex k hD, upd_same, hst _ _ _ _ _ (none_of_ex k hD) h0⟩ (fun i H hi ⟨B', acc, g, _, _, s⟩ => hG i B' H acc hi g s) ?_ (fun H ⟨B', acc, g, b, e, s⟩ => hd B' H acc g b e s)
  rintro i x H H' hi ⟨B', acc, g, b, e, s⟩ y
  refine hs i x B' H H' acc hi g b e s y _ _ (fun y B4 H4 g4 hl s4 => ⟨acc, g4.h _ _ hM e, hl, B4, acc ++ [y], ?_, g4.f _ b (by rw [e]; exact fun z => nomatch z), upd_same, hst _ _ _ _ _ (g4.f _ b (by rw [e]; exact fun z => nomatch z)) s4⟩) fun B3 H3 g3 s3 => ⟨B3, acc, g.trans g3, g3.f _ b (by rw [e]; exact fun z => nomatch z), g3.h _ _ hM e, s3⟩
  exact (g.trans g4).mut (.inr hD) (g4.f _ b (by rw [e]; exact fun z => nomatch z))
/-- a list of data, from the items of xs -/
theorem lcF {K : PySem.W.Frag} {α β : Type} [DecidableEq β] [Dat β] {xs : List α} (f : α → Option β) (w : Walk J xs.length G Y) (k : Ex B H1) (hD : H1 D = none) (hz : xs.length < sizeLine)
    (hG : ∀ B' H', Gr M0 B H1 B' H' → G H')
    (hs : ∀ i a x B' H' H'', xs[i]? = some a → Gr M0 B H1 B' H' → Y i H' x H'' →
      ∀ (KT : VK) (KF : Hp → Prop), (∀ b y B4 H4, f a = some b → Gr M0 B' H' B4 H4 → Dt K B4 y b → KT y H4) → (∀ B3 H3, f a = none → Gr M0 B' H' B3 H3 → KF H3) →
      g x (wipe σ vs) H'' fun σ2 H2 => wipe σ2 vs = wipe σ vs ∧ tt σ2 H2 fun b H3 => if b = true then te σ2 H3 KT else KF H3)
    (hd : ∀ B' H' acc, Gr M0 B H1 B' H' → B' D = none → H' D = some (.lst acc) → Das K B' acc (xs.filterMap f) → Qd H') : tLcR J g tt te vs σ H1 D Qd := by
  refine lcB (M := M0) w (fun i B' _ acc => Das K B' acc ((xs.take i).filterMap f) ∧ acc.length ≤ i) k hD (fun z => z) ⟨by simpa using Das.nil, Nat.le_refl _⟩ (fun _ _ _ _ _ _ s => s) (fun i B' H' acc _ g _ => hG B' H' g) ?_ (fun B' H' acc g b e s => hd B' H' acc g b e (by simpa using s.1))
  intro i x B' H' H'' acc hi g b e s y KT KF kt kf
  have hx : xs[i]? = some xs[i] := List.getElem?_eq_getElem hi
  have e2 : xs.take (i + 1) = xs.take i ++ [xs[i]] := by rw [List.take_add_one, hx]; rfl
  refine hs i xs[i] x B' H' H'' hx g y KT KF (fun b y B4 H4 fb g4 d => kt y B4 H4 g4 (by omega) ⟨?_, by rw [List.length_append, List.length_singleton]; omega⟩) fun B3 H3 fb g3 => kf B3 H3 g3 ⟨?_, by omega⟩
  · rw [e2, List.filterMap_append, List.filterMap_cons, fb]
    exact (s.1.mono g4.b).snoc d
  · rw [e2, List.filterMap_append, List.filterMap_cons, fb]
    simpa using s.1.mono g3.b
end
section
variable {K : PySem.W.Frag} {B H1 : Hp} {g : TG} {tt : TT} {te : TE} {vs : List Nat} {σ : L2.St} {D : Addr} {Qd : Hp → Prop}
/-- over a list of data that stays -/
theorem lcL {α β : Type} [DecidableEq α] [Dat α] [DecidableEq β] [Dat β] {xs : List α} {a : Addr} {ws : List V} (f : α → Option β) (hL : SqL K B a ws) (hA : Das K B ws xs) (k : Ex B H1) (hD : H1 D = none) (hz : xs.length < sizeLine)
    (hs : ∀ (i : Nat) y x B' H', xs[i]? = some y → Dt K B' x y → Gr M0 B H1 B' H' →
      ∀ (KT : VK) (KF : Hp → Prop), (∀ b z B4 H4, f y = some b → Gr M0 B' H' B4 H4 → Dt K B4 z b → KT z H4) → (∀ B3 H3, f y = none → Gr M0 B' H' B3 H3 → KF H3) →
      g x (wipe σ vs) H' fun σ2 H2 => wipe σ2 vs = wipe σ vs ∧ tt σ2 H2 fun b H3 => if b = true then te σ2 H3 KT else KF H3)
    (hd : ∀ B' H' acc, Gr M0 B H1 B' H' → B' D = none → H' D = some (.lst acc) → Das K B' acc (xs.filterMap f) → Qd H') : tLcR (Itl K a) g tt te vs σ H1 D Qd := by
  have wk : Walk (Itl K a) xs.length (fun H => SqL K H a ws) (YAt ws) := by
    rw [← hA.len]
    exact walk_list
  refine lcF (K := K) f wk k hD hz (fun B' H' g => ex_l (g.b.trans g.k) hL) ?_ hd
  rintro i y x B' H' H'' hy g ⟨rfl, hx⟩ KT KF kt kf
  obtain ⟨y', e, d⟩ := hA.get hx
  rw [hy] at e
  cases e
  exact hs i y x B' H'' hy (d.mono g.b) g KT KF kt kf
/-- over a list of ints, whoever owns it -/
theorem lcI {β : Type} [DecidableEq β] [Dat β] {ns : List Int} {a : Addr} (f : Int → Option β) (hL : SqL K H1 a (ns.map V.int)) (k : Ex B H1) (hD : H1 D = none) (hz : ns.length < sizeLine)
    (hs : ∀ (i : Nat) y B' H', ns[i]? = some y → Gr M0 B H1 B' H' →
      ∀ (KT : VK) (KF : Hp → Prop), (∀ b z B4 H4, f y = some b → Gr M0 B' H' B4 H4 → Dt K B4 z b → KT z H4) → (∀ B3 H3, f y = none → Gr M0 B' H' B3 H3 → KF H3) →
      g (.int y) (wipe σ vs) H' fun σ2 H2 => wipe σ2 vs = wipe σ vs ∧ tt σ2 H2 fun b H3 => if b = true then te σ2 H3 KT else KF H3)
    (hd : ∀ B' H' acc, Gr M0 B H1 B' H' → B' D = none → H' D = some (.lst acc) → Das K B' acc (ns.filterMap f) → Qd H') : tLcR (Itl K a) g tt te vs σ H1 D Qd := by
  have wk : Walk (Itl K a) ns.length (fun H => SqL K H a (ns.map V.int)) (YAt (ns.map V.int)) := by
    have e := walk_list (K := K) (a := a) (xs := ns.map V.int)
    rw [List.length_map] at e
    exact e
  refine lcF (K := K) f wk k hD hz (fun B' H' g => ex_l g.ex hL) ?_ hd
  rintro i y x B' H' H'' hy g ⟨rfl, hx⟩ KT KF kt kf
  rw [List.getElem?_map, hy] at hx
  cases hx
  exact hs i y B' H'' hy g KT KF kt kf
/-- over range(n) -/
theorem lcR {β : Type} [DecidableEq β] [Dat β] {n : Nat} (f : Nat → Option β) (k : Ex B H1) (hD : H1 D = none) (hz : n < sizeLine)
    (hs : ∀ i B' H', i < n → Gr M0 B H1 B' H' →
      ∀ (KT : VK) (KF : Hp → Prop), (∀ b z B4 H4, f i = some b → Gr M0 B' H' B4 H4 → Dt K B4 z b → KT z H4) → (∀ B3 H3, f i = none → Gr M0 B' H' B3 H3 → KF H3) →
      g (.int (i : Nat)) (wipe σ vs) H' fun σ2 H2 => wipe σ2 vs = wipe σ vs ∧ tt σ2 H2 fun b H3 => if b = true then te σ2 H3 KT else KF H3)
    (hd : ∀ B' H' acc, Gr M0 B H1 B' H' → B' D = none → H' D = some (.lst acc) → Das K B' acc ((List.range n).filterMap f) → Qd H') : tLcR (Itr 0 n) g tt te vs σ H1 D Qd := by
  have wk : Walk (Itr 0 n) (List.range n).length (fun _ => True) (YFn fun i => .int (0 + i)) := by
    rw [List.length_range]
    exact walk_range
  refine lcF (K := K) f wk k hD (by rw [List.length_range]; exact hz) (fun _ _ _ => trivial) ?_ hd
  rintro i y x B' H' H'' hy gg ⟨rfl, rfl⟩ KT KF kt kf
  have hi : i < n := by
    have := (List.getElem?_eq_some_iff.mp hy).1
    rwa [List.length_range] at this
  rw [List.getElem?_range hi] at hy
  cases hy
  have e : (0 : Int) + (i : Nat) = (i : Nat) := Int.zero_add _
  show g (.int ((0 : Int) + (i : Nat))) _ _ _
  rw [e]
  exact hs i B' H'' hi gg KT KF kt kf
end
theorem Gr.made {B H B' H' : Hp} {x dx : Addr} {o1 o2 : HO} (g : Gr (fun a => a = x) B (upd (upd H dx o1) x o2) B' H') (hx : H x = none) (hd : H dx = none) : Gr M0 B H B' H' := by
  have e0 : Ex H (upd (upd H dx o1) x o2) := (Ex.new hd).mut hx
  refine ⟨g.b, g.k, fun a o _ h => g.h a o (ne_of_none h hx) (e0 a o h), fun a h => g.n a (upd_nn (upd_nn h)), fun a h1 h2 => g.f a h1 (upd_nn (upd_nn h2))⟩
theorem ifd {p A B : Prop} [Decidable p] (h1 : p → A) (h2 : ¬ p → B) : if decide p = true then A else B := by
  by_cases h : p
  · rw [if_pos (decide_eq_true h)]
    exact h1 h
  · rw [if_neg (by rw [decide_eq_true_eq]; exact h)]
    exact h2 h
theorem ifn {p A B : Prop} [Decidable p] (h1 : ¬ p → A) (h2 : p → B) : if (!decide p) = true then A else B := by
  by_cases h : p
  · rw [if_neg (by rw [decide_eq_true h]; decide)]
    exact h2 h
  · rw [if_pos (by rw [decide_eq_false h]; rfl)]
    exact h1 h
theorem ifb {b : Bool} {A B : Prop} (h1 : b = true → A) (h2 : b = false → B) : if b = true then A else B := by
  cases b with
  | true => exact (if_pos rfl).symm ▸ h1 rfl
  | false => rw [if_neg (by decide)]; exact h2 rfl
theorem ift {b : Bool} {A B : Prop} (e : b = true) (h : A) : if b = true then A else B := by rw [if_pos e]; exact h
theorem iff_ {b : Bool} {A B : Prop} (e : b = false) (h : B) : if b = true then A else B := by rw [if_neg (by rw [e]; decide)]; exact h
end Lw
namespace Lw
open PySem PySem.Spec PyProof.Rows L2 Evl
/-! ### len of an instance with its own __len__ -/
section
variable {X : Cx} {k : Nat} {C f : Addr} {fd : FuncData} {ps : List Str} {sp : Sp}
structure CalL (P : Program) (w : World) (K : PySem.W.Frag) (mg : Str → Option Value) (base : Heap) (C : Addr) (k : Nat) (ps : List Str) (sp : Sp) : Prop where
  ex : ∃ f fd, FnOk P w K mg base CX0 k f fd ps sp ∧ PySem.W.findIn K (.ref C) "__len__" = some (some (.ref f)) ∧ PySem.W.isFn K (.ref f) = true ∧ Binds K fd ps []
theorem call_lenOwn (cl : CalL X.prog X.w X.K X.mg X.base C k ps sp) (hr : Room (k + 1) X.A) :
    CallR X (.builtin "len") (fun xs H Q => ∃ a dx fs, xs = [.ref a] ∧ H a = some (.ins C dx fs) ∧ sp [.ref a] H (fun v H' => ∃ n : Int, v = .int n ∧ (0 ≤ n ∧ n < 2 ^ 63) ∧ Q (.int n) H') E0) := by
  obtain ⟨f, fd, F, hs, hf, hb⟩ := cl.ex
  intro pins s σ H xs us Q I r h
  obtain ⟨a, dx, fs, rfl, ea, h⟩ := h
  obtain ⟨u1, rfl, r1⟩ := vals1 r
  cases (show u1 = Value.ref a from r1)
  obtain ⟨mA, O, _⟩ := ins_get I.hok ea
  obtain ⟨od, J, _⟩ := O.look
  obtain ⟨m, hF⟩ := I.fr
  have hl := F.len _ _ _ _ h
  have r2 : Vals [V.ref a] [Value.ref a] := .cons rfl .nil
  refine PySem.W.len_K hF I.ok.mod.kin J hs hf ?_
  refine wpAny_call (codeAny_mono (F.run X.A.in1 X.stack s H ⟨[.ref a], []⟩ [.ref a] [.ref a] _ E0 hr.in1 I.env0.in1 (by
    have := hb s [.ref a] I.kIn (by simpa using hl)
    simpa using this) r2 h) fun rr s' hq => ?_)
  cases rr with
  | error e => exact False.elim (pass0 (X := X.nox) pins σ H s e s' (I.wish _) hq)
  | ok fl =>
    cases fl with
    | ret u =>
      obtain ⟨v, H', I3, rv, n, hv, hn, q⟩ := I.after hq
      subst hv
      obtain ⟨t, rfl⟩ := rv
      exact ⟨hn, ⟨.int n, H', I3.tok _, ⟨_, rfl⟩, q⟩⟩
    | next => exact False.elim hq
    | brk => exact False.elim hq
    | cont => exact False.elim hq
end
end Lw
namespace Lw
open PySem PySem.Spec L2 Evl
/-! ### a list of three ints from which is drawn -/
abbrev dk (x y z : Int) : HO := .lst [.int x, .int y, .int z]
def DeckAt (H : Hp) (d : Addr) : Prop := ∃ x y z, H d = some (dk x y z)
theorem DeckAt.nn {H : Hp} {d : Addr} (h : DeckAt H d) : H d ≠ none := by
  obtain ⟨x, y, z, e⟩ := h
  rw [e]
  exact fun z => nomatch z
theorem DeckAt.upd {H : Hp} {d D : Addr} {o : HO} (h : DeckAt H d) (n : d ≠ D) : DeckAt (upd H D o) d := by
  obtain ⟨x, y, z, e⟩ := h
  exact ⟨x, y, z, by rw [upd_ne n]; exact e⟩
theorem DeckAt.ne {H : Hp} {d D : Addr} (h : DeckAt H d) (n : H D = none) : d ≠ D := fun e => h.nn (e ▸ n)
theorem DeckAt.new {H : Hp} {d D : Addr} {o : HO} (h : DeckAt H d) (n : H D = none) : DeckAt (L2.upd H D o) d := h.upd (h.ne n)
theorem DeckAt.ex {H H' : Hp} {d : Addr} (h : DeckAt H d) (e : Ex H H') : DeckAt H' d := by
  obtain ⟨x, y, z, q⟩ := h
  exact ⟨x, y, z, e _ _ q⟩
theorem DeckAt.gr {B H B' H' : Hp} {d : Addr} (h : DeckAt H d) (g : Gr M0 B H B' H') : DeckAt H' d := h.ex g.ex
abbrev Md (d : Addr) : Addr → Prop := fun a => a = d
theorem Gr.deck {B H B' H' : Hp} {d : Addr} {x y z : Int} (g : Gr (Md d) B H B' H') (hb : B' d = none) : Gr (Md d) B H B' (upd H' d (dk x y z)) := g.mut (.inl rfl) hb
theorem Gr.bd {M : Addr → Prop} {B H B' H' : Hp} {d : Addr} (g : Gr M B H B' H') (hb : B d = none) (hd : H d ≠ none) : B' d = none := g.f d hb hd
/-- a deck and what is known beside it -/
structure Dk (B H : Hp) (d : Addr) : Prop where
  k : Ex B H
  b : B d = none
  at_ : DeckAt H d
theorem Dk.gr {B H B' H' : Hp} {d : Addr} (h : Dk B H d) (g : Gr M0 B H B' H') : Dk B' H' d := ⟨g.k, g.f d h.b h.at_.nn, h.at_.gr g⟩
theorem Dk.go {B H B' H' : Hp} {d : Addr} (h : Dk B H d) (g : Gr (Md d) B H B' H') (a : DeckAt H' d) : Dk B' H' d := ⟨g.k, g.f d h.b h.at_.nn, a⟩
theorem Dk.own {B H : Hp} {d p : Addr} {o : HO} (k : Dk B H d) (hp : H p = none) : Dk B (upd H p o) d := k.gr ((Gr.refl k.k).own hp)
theorem Dk.new {B H : Hp} {d p : Addr} {o : HO} (k : Dk B H d) (hp : H p = none) : Dk (L2.upd B p o) (L2.upd H p o) d := k.gr ((Gr.refl k.k).new hp)
section
variable {J : It} {n : Nat} {G : Hp → Prop} {Y : Nat → Hp → V → Hp → Prop} {B H1 : Hp} {g : TG} {tt : TT} {te : TE} {vs : List Nat} {σ : L2.St} {D d : Addr} {Qd : Hp → Prop}
/-- ints that are drawn -/
theorem lcInts (w : Walk J n G Y) (P : Int → Prop) (k : Dk B H1 d) (hD : H1 D = none) (hn : n < sizeLine)
    (hG : ∀ B' H', Gr (Md d) B H1 B' H' → Dk B' H' d → G H')
    (hs : ∀ i x B' H' H'', i < n → Gr (Md d) B H1 B' H' → Dk B' H' d → Y i H' x H'' → ∀ (KT : VK) (KF : Hp → Prop), (∀ z B4 H4, Gr (Md d) B' H' B4 H4 → Dk B4 H4 d → P z → KT (.int z) H4) →
      g x (wipe σ vs) H'' fun σ2 H2 => wipe σ2 vs = wipe σ vs ∧ tt σ2 H2 fun b H3 => if b = true then te σ2 H3 KT else KF H3)
    (hd : ∀ B' H' (ns : List Int), Gr (Md d) B H1 B' H' → Dk B' H' d → B' D = none → H' D = some (.lst (ns.map V.int)) → ns.length = n → (∀ z ∈ ns, P z) → Qd H') : tLcR J g tt te vs σ H1 D Qd := by
  have hdD : d ≠ D := k.at_.ne hD
  refine lcB (M := Md d) w (fun i B' H' acc => Dk B' H' d ∧ ∃ ns : List Int, acc = ns.map V.int ∧ ns.length = i ∧ ∀ z ∈ ns, P z) k.k hD (fun z => hdD z.symm) ⟨k, [], rfl, rfl, fun z hz => nomatch hz⟩ (fun i B' H' acc l hb ⟨⟨k1, k2, k3⟩, s⟩ => ⟨⟨fun a u e => by rw [upd_ne (ne_of_none e hb)]; exact k1 a u e, k2, k3.upd hdD⟩, s⟩) (fun i B' H' acc _ g s => hG B' H' g s.1) ?_ ?_
  · intro i x B' H' H'' acc hi g b e s y KT KF kt kf
    obtain ⟨dk', ns, rfl, hl, hp⟩ := s
    refine hs i x B' H' H'' hi g dk' y KT KF fun z B4 H4 g4 d4 pz => kt _ B4 H4 g4 (by rw [List.length_map]; omega) ⟨d4, ns ++ [z], by rw [List.map_append]; rfl, by rw [List.length_append, hl]; rfl, fun q hq => ?_⟩
    rcases List.mem_append.mp hq with h | h
    · exact hp q h
    · rw [List.mem_singleton.mp h]; exact pz
  · intro B' H' acc g b e s
    obtain ⟨dk', ns, rfl, hl, hp⟩ := s
    exact hd B' H' ns g dk' b e hl hp
end
section
variable {X : Cx} {σ : L2.St} {H : Hp} {Q : VK} {e o : Expr} {pos ap : Pos}
/-- a built-in type's method -/
theorem e_bm {T : String} {name : Str} {id : String} {r : V → List V → Hp → VK → Prop} {es : List Expr} (pa : PySem.PlainAttrs T) (slot : PySem.Slot T name id) (hty : typeOf (.builtin id) = pure (.type "method_descriptor")) (hm : MtR X id r)
    (h : WE X o σ H fun x H1 => tyV X.K T x H1 ∧ WA X (e :: es) σ H1 fun vs H2 => r x vs H2 Q) (hbase : attributeBase o name X.env (eval o X.env) = eval o X.env := by rfl)
    (hfew : ((backTo pos (starEach (e :: es) X.env)).all (fun x => !x.1) && (backToKw pos (keywordEach [] X.env)).all (fun x => x.1.isSome)
      && decide ((e :: es).length + ([] : List Keyword).length + (if ([] : List Keyword).isEmpty then 0 else 1) < 30)) = true := by rfl)
    (hline : (ap.endLine == pos.line) = true := by rfl) (hs : starEach (e :: es) X.env = (false, eval e X.env) :: starEach es X.env := by rfl) (hplain : (backTo pos (starEach es X.env)).any (·.1) = false := by rfl) : WE X (.Call (.Attribute o name ap) (e :: es) [] pos) σ H Q :=
  ⟨_, pe_bm pa slot hty hm WE.pe WA.pa hbase hfew hline hs hplain, h⟩
end
/-- what holds behind a statement, on all its ways -/
theorem s_join {X : Cx} {st : Stmt} {D : Ends} {σ : L2.St} {H : Hp} (P : L2.St → Hp → Prop) (h1 : WS X st { D with nx := P } σ H) (h2 : ∀ σ H, P σ H → D.nx σ H) : WS X st D σ H := by
  refine ⟨fun D σ H => ∃ P, WS X st { D with nx := P } σ H ∧ ∀ σ H, P σ H → D.nx σ H, ⟨fun pins s σ H D I h => ?_⟩, P, h1, h2⟩
  obtain ⟨P, h1, h2⟩ := h
  refine thn (WS.ps.run pins s σ H _ I h1) fun f s' q => ?_
  cases f with
  | next => obtain ⟨σ', H', I', q⟩ := q; exact ⟨σ', H', I', h2 _ _ q⟩
  | brk => exact q
  | cont => exact q
  | ret u => exact q
theorem walk_r0 {n : Nat} : Walk (Itr 0 n) n (fun _ => True) (fun i H x H' => H' = H ∧ x = .int (i : Nat)) :=
  (walk_range (lo := 0)).mono (fun _ h => h) fun i H x H' _ _ y => ⟨y.1, by rw [y.2]; show V.int (0 + (i : Nat)) = _; rw [Int.zero_add]⟩
end Lw
namespace Lw
open PySem PySem.W PySem.Calls PyProof.Rows Builtin
section
variable {prog : Program} {w : World} {A : Around} {E : Value → Shared → Prop} {s : Shared} {K : Frag} {x y C f : Addr} {ox oy : Obj} {od oe : Option Obj}
theorem ifBound_B {M : Model} {id : String} {name : Str} {args : List Value} {Q : Option Value → Shared → Prop} (X : K.In s.heap) (I : InstAt s.heap x ox C od) (hs : findIn K (.ref C) name = some (some (.builtin id)))
    (hb : ∀ self, bindSpecial (.builtin id) self = pure (.builtin id, [self])) (h : wpAny M A (call (.builtin id) (.ref x :: args)) (fun v => Q (some v)) E s) : wpAny M A (callSpecialIfBound? (.ref x) name args) Q E s := by
  simp only [callSpecialIfBound?, bindSpecialIfBound?]
  refine wpAny_holding (wpAny_bind (wpAny_bind (wpAny_bind (I.type.here ((looks_findIn X hs).here ?_)))))
  simp only [hb]
  refine wpAny_bind (wpAny_askSetting (wpAny_ite ?_))
  have fin : wpAny M A (call (.builtin id) ([.ref x] ++ args) >>= fun v => pure (some v)) Q E s := wpAny_bind (wpAny_mono h (fun v s' h' => wpAny_pure h') fun _ _ h' => h')
  split
  · exact wpAny_bind (wpAny_pure (wpAny_pure fin))
  · exact wpAny_tryCatch (wpAny_bind (wpAny_pure (wpAny_pure fin)))
theorem ne_own {Q : Value → Shared → Prop} (hu : A.units < cLine) (hu1 : A.in1.units < cLine) (X : K.In s.heap) (I : InstAt s.heap x ox C od) (J : InstAt s.heap y oy C oe)
    (hn : findIn K (.ref C) (cmpInfo .NotEq).2.1 = some (some (.builtin "object.__ne__"))) (hm : mroIn K C (.type "object") = some true) (he : findIn K (.ref C) "__eq__" = some (some (.ref f))) (hf : isFn K (.ref f) = true)
    (h : wpAny (model prog w) A.in1 (call (.ref f) [.ref x, .ref y]) (fun v s' => ∃ b, v = .bool b ∧ Q (.bool (!b)) s') E s) : wpAny (model prog w) A (richCompare .NotEq (.ref x) (.ref y)) Q E s := by
  have one : wpAny (model prog w) A (tryCompare (.ref x) (cmpInfo .NotEq).2.1 (.ref y)) (fun r s' => ∃ v, r = some v ∧ Q v s') E s := by
    unfold tryCompare
    refine wpAny_bind (ifBound_B X I hn PySem.F.slot_object_ne.bind ?_)
    refine wpAny_call (codeAny_call_builtin PySem.F.slot_object_ne.plain PySem.F.entry_object_ne (check_slot (i := "object.__ne__") (owner := "object") (n := "__ne__") (by decide +kernel) (by decide +kernel) (I.type.andThen (looks_mroIn X hm)) (PySem.F.args_object_ne_2 _ _) ?_))
    unfold Builtin.«object.__ne__»
    refine wpAny_bind (m := slotArgs "__ne__" 1 _) (wpAny_pure ?_)
    refine wpAny_bind (m := cRoomFor _ _) (wpAny_cRoomFor hu1 ?_)
    refine wpAny_bind (m := callSpecialIfBound? (.ref x) (Str.ofString "__eq__") _) (ifBound_K X I he hf (wpAny_mono h (fun r s' hr => ?_) fun _ _ e => e))
    obtain ⟨b, rfl, hq⟩ := hr
    refine wpAny_bind (m := truthy (.bool b)) (wpAny_truthy_bool ?_)
    exact wpAny_pure (wpAny_pure ⟨_, rfl, hq⟩)
  unfold richCompare
  simp only [oneThing_ref]
  refine wpAny_holding (wpAny_bind (wpAny_cRoomFor hu ?_))
  refine wpAny_bind (I.type.here (wpAny_bind (J.type.here ?_)))
  rw [show (Value.ref C != Value.ref C) = false from by simp]
  simp only [Bool.false_eq_true, if_false]
  refine wpAny_bind (wpAny_pure ?_)
  simp only [Bool.false_eq_true, if_false]
  refine wpAny_bind (wpAny_mono one (fun r s' z => ?_) fun _ _ e => e)
  obtain ⟨v, rfl, hq⟩ := z
  exact wpAny_pure hq
end
end Lw
namespace Lw
open PySem PySem.Spec L2 Evl
/-- the text's own == -/
structure CalE (P : Program) (w : World) (K : PySem.W.Frag) (mg : Str → Option Value) (base : Heap) (C : Addr) (k : Nat) (ps : List Str) (sp : Sp) : Prop where
  ex : ∃ f fd, FnOk P w K mg base CX0 k f fd ps sp ∧ PySem.W.findIn K (.ref C) "__eq__" = some (some (.ref f)) ∧ PySem.W.isFn K (.ref f) = true ∧ Binds K fd ps []
  ne : PySem.W.findIn K (.ref C) (cmpInfo .NotEq).2.1 = some (some (.builtin "object.__ne__"))
  mro : PySem.W.mroIn K C (.type "object") = some true
section
variable {X : Cx} {k : Nat} {C f : Addr} {fd : FuncData} {ps : List Str} {sp : Sp}
def rOwn (C : Addr) (sp : Sp) (g : Bool → Bool) : R2 := fun x y H Q => ∃ a b dx dy fs gs, x = .ref a ∧ y = .ref b ∧ H a = some (.ins C dx fs) ∧ H b = some (.ins C dy gs) ∧ sp [.ref a, .ref b] H (fun v H' => ∃ k, v = .bl k ∧ Q (.bl (g k)) H') E0
theorem op_neOwn (cl : CalE X.prog X.w X.K X.mg X.base C k ps sp) (hr : Room (k + 1) X.A) : OpR X (compareOp .NotEq) (rOwn C sp fun k => !k) := by
  obtain ⟨f, fd, F, hs, hf, hb⟩ := cl.ex
  intro pins s σ H x y u v Q I rx ry h
  obtain ⟨a, b, dx, dy, fs, gs, rfl, rfl, ea, eb, h⟩ := h
  cases (show u = Value.ref a from rx)
  cases (show v = Value.ref b from ry)
  obtain ⟨mA, O, _⟩ := ins_get I.hok ea
  obtain ⟨od, J, _⟩ := O.look
  obtain ⟨mB, O', _⟩ := ins_get I.hok eb
  obtain ⟨od', J', _⟩ := O'.look
  have hl := F.len _ _ _ _ h
  have r2 : Vals [V.ref a, V.ref b] [Value.ref a, Value.ref b] := .cons rfl (.cons rfl .nil)
  refine PySem.W.cmp_ofNotEq (ne_own hr.units0 hr.in1.units0 I.kIn J J' cl.ne cl.mro hs hf ?_)
  refine wpAny_call (codeAny_mono (F.run X.A.in1 X.stack s H ⟨[.ref a, .ref b], []⟩ [.ref a, .ref b] [.ref a, .ref b] _ E0 hr.in1 I.env0.in1 (by
    have := hb s [.ref a, .ref b] I.kIn (by simpa using hl)
    simpa using this) r2 h) fun rr s' hq => ?_)
  cases rr with
  | error e => exact False.elim (pass0 (X := X.nox) pins σ H s e s' (I.wish _) hq)
  | ok fl =>
    cases fl with
    | ret u =>
      obtain ⟨v, H', I3, rv, n, hv, q⟩ := I.after hq
      subst hv
      cases rv
      exact ⟨n, rfl, ⟨.bl (!n), H', I3, rfl, q⟩⟩
    | next => exact False.elim hq
    | brk => exact False.elim hq
    | cont => exact False.elim hq
theorem op_eqOwn (cl : CalE X.prog X.w X.K X.mg X.base C k ps sp) (hr : Room k X.A) : OpR X (compareOp .Eq) (rOwn C sp fun k => k) := by
  obtain ⟨f, fd, F, hs, hf, hb⟩ := cl.ex
  intro pins s σ H x y u v Q I rx ry h
  obtain ⟨a, b, dx, dy, fs, gs, rfl, rfl, ea, eb, h⟩ := h
  cases (show u = Value.ref a from rx)
  cases (show v = Value.ref b from ry)
  obtain ⟨mA, O, _⟩ := ins_get I.hok ea
  obtain ⟨od, J, _⟩ := O.look
  obtain ⟨mB, O', _⟩ := ins_get I.hok eb
  obtain ⟨od', J', _⟩ := O'.look
  obtain ⟨m, hF⟩ := I.fr
  have hl := F.len _ _ _ _ h
  have r2 : Vals [V.ref a, V.ref b] [Value.ref a, Value.ref b] := .cons rfl (.cons rfl .nil)
  show wpAny _ _ (richCompare .Eq (.ref a) (.ref b)) _ _ _
  refine PySem.W.cmp_K (op := .Eq) (tb := .ref C) hr.units0 hF I.ok.mod.kin J J'.type (by simp [PySem.W.notFirst]) hs hf ?_
  refine wpAny_call (codeAny_mono (F.run X.A X.stack s H ⟨[.ref a, .ref b], []⟩ [.ref a, .ref b] [.ref a, .ref b] _ E0 hr I.env0 (by
    have := hb s [.ref a, .ref b] I.kIn (by simpa using hl)
    simpa using this) r2 h) fun rr s' hq => ?_)
  cases rr with
  | error e => exact False.elim (pass0 (X := X.nox) pins σ H s e s' (I.wish _) hq)
  | ok fl =>
    cases fl with
    | ret u =>
      obtain ⟨v, H', I3, rv, n, hv, q⟩ := I.after hq
      subst hv
      cases rv
      exact ⟨.bl n, H', I3, rfl, q⟩
    | next => exact False.elim hq
    | brk => exact False.elim hq
    | cont => exact False.elim hq
end
section
variable {M : Addr → Prop} {B H B1 H1 B' H' : Hp}
/-- knowing less at the start, nothing at the end -/
theorem Gr.base (x : Gr M B1 H B' H') (e : Ex B B1) : Gr M B H B H' := ⟨.refl B, (e.trans x.b).trans x.k, x.h, x.n, fun _ h _ => h⟩
theorem Gr.fresh {d G : Addr} {B2 H2 : Hp} (x : Gr (Md d) B H B1 H1) (y : Gr (Md G) B1 H1 B2 H2) (hG : H G = none) : Gr (Md d) B H B2 H2 :=
  ⟨x.b.trans y.b, y.k, fun a o m h => y.h a o (fun e => by rw [e, hG] at h; cases h) (x.h a o m h), fun a h => y.n a (x.n a h), fun a h1 h2 => y.f a (x.f a h1 h2) (x.n a h2)⟩
theorem ex_put {G : Addr} {o : HO} (k : Ex B H) (e : H G = some o) : Ex (upd B G o) H := fun a u h => by
  by_cases z : a = G
  · subst z
    rw [upd_same] at h
    rw [e, h]
  · rw [upd_ne z] at h
    exact k a u h
end
section
variable {X : Cx} {σ : L2.St} {H : Hp} {Q : VK} {e o a : Expr} {pos p2 p3 ap pos2 : Pos}
/-- a built-in type's method without arguments -/
theorem e_bm0 {T : String} {name : Str} {id : String} {r : V → List V → Hp → VK → Prop} (pa : PySem.PlainAttrs T) (slot : PySem.Slot T name id) (hty : typeOf (.builtin id) = pure (.type "method_descriptor")) (hm : MtR X id r)
    (h : WE X o σ H fun x H1 => tyV X.K T x H1 ∧ r x [] H1 Q) (hbase : attributeBase o name X.env (eval o X.env) = eval o X.env := by rfl) (hline : (ap.endLine == pos.line) = true := by rfl) : WE X (.Call (.Attribute o name ap) [] [] pos) σ H Q :=
  ⟨_, pe_bm0 pa slot hty hm WE.pe hbase hline, h⟩
/-- list(range(n)) -/
theorem e_listRg (hml : X.mg "list" = none) (hmr : X.mg "range" = none) (hc : X.calm = true := by rfl) (hg : Gl X "list" := by rfl) (hg2 : Gl X "range" := by rfl)
    (na : starEach [a] X.env = (false, eval a X.env) :: starEach [] X.env := by rfl) (na2 : starEach [.Call (.Name "range" p3) [a] [] pos2] X.env = (false, eval (.Call (.Name "range" p3) [a] [] pos2) X.env) :: starEach [] X.env := by rfl)
    (h : WE X a σ H fun x H1 => ∃ n, x = .int n ∧ RgOk 0 n ∧ ∀ q, H1 q = none → Q (.ref q) (upd H1 q (.lst (rgV 0 n)))) : WE X (.Call (.Name "list" p2) [.Call (.Name "range" p3) [a] [] pos2] [] pos) σ H Q :=
  ⟨_, pe_listRg hc hg hml (prg_1 hg2 hmr WE.pe na) na2, h⟩
end
/-- the parameters' order -/
def perm2 {α : Type} : List α → List α
  | [x, y] => [y, x]
  | l => l
def perm3 {α : Type} : List α → List α
  | [x, y, z] => [z, y, x]
  | l => l
theorem vals_perm2 {vs : List V} {us : List Value} (r : Vals vs us) : Vals (perm2 vs) (perm2 us) :=
  match r with
  | .nil => .nil
  | .cons a .nil => .cons a .nil
  | .cons a (.cons b .nil) => .cons b (.cons a .nil)
  | .cons a (.cons b (.cons c d)) => .cons a (.cons b (.cons c d))
theorem vals_perm3 {vs : List V} {us : List Value} (r : Vals vs us) : Vals (perm3 vs) (perm3 us) :=
  match r with
  | .nil => .nil
  | .cons a .nil => .cons a .nil
  | .cons a (.cons b .nil) => .cons a (.cons b .nil)
  | .cons a (.cons b (.cons c .nil)) => .cons c (.cons b (.cons a .nil))
  | .cons a (.cons b (.cons c (.cons d e))) => .cons a (.cons b (.cons c (.cons d e)))
end Lw
namespace PySem
open Sem (wp)
theorem tree_kw {prog : Program} {w : World} {A : Around} {E : Value → Shared → Prop} {s : Shared} {id : String} {b : Builtin} {args : List Value} {kw : List (Str × Value)} {Q : Value → Shared → Prop} (hk : builtinKind id = none) (hp : plainId id = true)
    (hb : entryFor table id = some b) (ha : argsOk id ⟨args, kw⟩)
    (hc : wpAny (model prog w) A.in1 (b ⟨args, kw⟩) (fun fin s' => match fin with
      | .done f => (match (Except.ok f : Result) with | .ok (.ret v) => Q v s' | .ok _ => False | .error e => E e s')
      | .again c' => c'.quiet = true ∧ codeAny (model prog w) A c' (fun r s' => match r with | .ok (.ret v) => Q v s' | .ok _ => False | .error e => E e s') s') E s) : wpAny (model prog w) A (call (.builtin id) args kw) Q E s := by
  refine wpAny_call (codeAny_call_builtin hp hb ?_)
  simp only [checkBuiltinCall, hk]
  cases hsig : Manifest.signature? id with
  | none => exact wpAny_pure hc
  | some sig =>
    have ha' : Bind.checkArgs id sig ⟨args, kw⟩ = pure () := by simpa only [argsOk, hsig] using ha
    simp only [ha']
    exact wpAny_pure hc

section
variable {prog : Program} {w : World} {A : Around} {R : Result → Shared → Prop} {I : Addr} {fp wr : List Addr} {n : Nat} {P : Nat → Value → Prop} {St : Nat → Heap → Prop}
theorem best_max (d : Value) (W : Walks prog w A.in1 I fp wr n P St) (bt : Nat → Nat → Bool) (hcmp : CmpOf prog w A.in1 .Gt P bt) (S : Addr) (hSf : S ∉ fp) :
    ∀ (k j : Nat) (s : Shared) (its : Array Value) (c : Nat), n - j = k → j ≤ n → St j s.heap →
    ((j = 0 ∧ its = #[]) ∨ ∃ vb, its = #[vb, vb] ∧ 0 < j ∧ P (argBest bt (j - 1)) vb) →
    s.heap.get? S = some { cls := .type "list", dict := none, data := .seq its c, slots := #[] } →
    (∀ v h' tk, (n = 0 ∧ v = d ∨ 0 < n ∧ P (argBest bt (n - 1)) v) → (∀ b o, b ∉ wr → b ≠ S → s.heap.get? b = some o → h'.get? b = some o) → R (.ok (.ret v)) { s with heap := h', toks := tk }) →
    codeAny (model prog w) A (.builtin "max.loop" ⟨[.ref I, .none, .ref S], [("default", d)]⟩) R s := by
  have hSw : S ∉ wr := fun h => hSf (W.sub _ h)
  have hn : (toString "max" ++ toString ".loop" : String) = "max.loop" := by decide
  intro k
  induction k with
  | zero =>
    intro j s its c hk hj hst hi hS hR
    have hin : j = n := by omega
    subst hin
    refine codeAny_builtin F.entry_max_loop ?_
    rw [Around.under_plainId F.plain_max_loop _]
    show wpAny _ A.in1 (seqItems? (.ref S) >>= _) _ _ s
    refine wpAny_bind (wpAny_seqItems hS rfl ?_)
    show wpAny _ A.in1 (tryCatch (pyNext (.ref I)) _ >>= _) _ _ s
    refine wpAny_bind (wpAny_tryCatch (W.done s _ _ hst fun h' tk hk' => ?_))
    rcases hi with ⟨e0, rfl⟩ | ⟨vb, rfl, h0, hP⟩
    · refine wpAny_bind (wpAny_rule ?_)
      exact wpAny_pure (hR d _ tk (.inl ⟨e0, rfl⟩) fun b o hbw _ e => hk' b o hbw e)
    · have hS' := hk' S _ hSw hS
      show wpAny _ A.in1 (updateSeq S (fun _ => #[]) >>= _) _ _ _
      refine wpAny_bind ?_
      refine wpAny_updateSeq hS' rfl (wpAny_bind (wpAny_letGo (wpAny_pure ?_)))
      exact hR vb _ tk (.inr ⟨h0, hP⟩) fun b o hbw hbS e => (Heap.get?_update_other _ _ (Ne.symm hbS)).trans (hk' b o hbw e)
  | succ k ih =>
    intro j s its c hk hj hst hi hS hR
    have hlt : j < n := by omega
    have go : ∀ {h' : Heap} {tk} {v : Value} (c' : Nat), (∀ b o, b ∉ wr → b ≠ S → s.heap.get? b = some o → h'.get? b = some o) → St (j + 1) h' → P (argBest bt j) v → h'.get? S = some { cls := .type "list", dict := none, data := .seq #[v, v] c', slots := #[] } →
        codeAny (model prog w) A (.builtin "max.loop" ⟨[.ref I, .none, .ref S], [("default", d)]⟩) R { s with heap := h', toks := tk } := fun c' kp st hv hS' =>
      ih (j + 1) _ #[_, _] c' (by omega) hlt st (.inr ⟨_, rfl, Nat.succ_pos _, hv⟩) hS' fun v' h'' tk'' hP' hk'' => hR v' h'' tk'' hP' fun b o hbw hbS e => hk'' b o hbw hbS (kp b o hbw hbS e)
    refine codeAny_builtin F.entry_max_loop ?_
    rw [Around.under_plainId F.plain_max_loop _]
    show wpAny _ A.in1 (seqItems? (.ref S) >>= _) _ _ s
    refine wpAny_bind (wpAny_seqItems hS rfl ?_)
    show wpAny _ A.in1 (tryCatch (pyNext (.ref I)) _ >>= _) _ _ s
    refine wpAny_bind (wpAny_tryCatch (W.item j s _ _ hlt hst fun v h' tk hP hst' hk' => ?_))
    have hS' := hk' S _ hSw hS
    rcases hi with ⟨e0, rfl⟩ | ⟨vb, rfl, h0, hPb⟩
    · subst e0
      show wpAny _ A.in1 (updateSeq S (fun _ => #[v, v]) >>= _) _ _ _
      refine wpAny_bind ?_
      refine wpAny_updateSeq hS' rfl ?_
      rw [hn]
      refine wpAny_pure ⟨plainId_quiet F.plain_max_loop _, go _ (fun b o hbw hbS e => (Heap.get?_update_other _ _ (Ne.symm hbS)).trans (hk' b o hbw e)) (W.frame _ _ _ hst' fun b hbf o e => ?_) hP (Heap.get?_update_self _ hS' rfl)⟩
      exact (Heap.get?_update_other _ _ (fun h : S = b => hSf (by rw [h]; exact hbf))).trans e
    · obtain ⟨i, rfl⟩ : ∃ i, j = i + 1 := ⟨j - 1, by omega⟩
      show wpAny _ A.in1 (tryCatch (holding [v, v] (richCompare .Gt v vb >>= _)) _ >>= _) _ _ _
      refine wpAny_bind (wpAny_tryCatch (wpAny_holding (wpAny_bind (hcmp (i + 1) (argBest bt i) v vb _ _ _ hP hPb ?_))))
      refine wpAny_bind (wpAny_holding (wpAny_truthy_bool ?_))
      refine wpAny_bind (wpAny_letGo (wpAny_pure ?_))
      cases hb : bt (i + 1) (argBest bt i) with
      | true =>
        simp only [if_true]
        refine wpAny_bind ?_
        refine wpAny_updateSeq hS' rfl (wpAny_bind (wpAny_letGo ?_))
        rw [hn]
        refine wpAny_pure ⟨plainId_quiet F.plain_max_loop _, go _ (fun b o hbw hbS e => (Heap.get?_update_other _ _ (Ne.symm hbS)).trans (hk' b o hbw e)) (W.frame _ _ _ hst' fun b hbf o e => ?_) (by simp only [argBest, hb, if_true]; exact hP) (Heap.get?_update_self _ hS' rfl)⟩
        exact (Heap.get?_update_other _ _ (fun h : S = b => hSf (by rw [h]; exact hbf))).trans e
      | false =>
        simp only [Bool.false_eq_true, if_false]
        refine wpAny_bind (wpAny_letGo ?_)
        rw [hn]
        exact wpAny_pure ⟨plainId_quiet F.plain_max_loop _, go c (fun b o hbw _ e => hk' b o hbw e) hst' (by simp only [argBest, hb, Bool.false_eq_true, if_false]; exact hPb) hS'⟩
theorem args_maxD (a d : Value) : argsOk "max" ⟨[a], [("default", d)]⟩ := by unfold argsOk; kernel_rfl
end
section
variable {prog : Program} {w : World} {A : Around} {E : Value → Shared → Prop} {s : Shared} {l : Addr} {xs : Array (Int × Tok)}
theorem max_default {Q : Value → Shared → Prop} (d : Value) (hh : A.handled = none) (hl : s.heap.IsList l (intItems xs))
    (h : ∀ v h' tk, (xs.size = 0 ∧ v = d ∨ 0 < xs.size ∧ (intItems xs)[argBest (fun i j => decide (numAt xs i > numAt xs j)) (xs.size - 1)]? = some v) → (∀ b o, s.heap.get? b = some o → h'.get? b = some o) → Q v { s with heap := h', toks := tk }) :
    wpAny (model prog w) A (call (.builtin "max") [.ref l] [("default", d)]) Q E s := by
  have hn : (toString "max" ++ toString ".loop" : String) = "max.loop" := by decide
  refine tree_kw F.kind_max F.plain_max F.entry_max (args_maxD _ _) ?_
  show wpAny _ A.in1 (Builtin.Builtins.bindParams "max" ["key", "default"] 0 ⟨[], [("default", d)]⟩ >>= _) _ _ s
  refine wpAny_bind (wpAny_of_eq (show Builtin.Builtins.bindParams "max" ["key", "default"] 0 ⟨[], [("default", d)]⟩ = pure [none, some d] from rfl) ?_)
  refine wpAny_bind (wpAny_pure ?_)
  refine wpAny_bind (iter_intList hl fun s₂ e st hfp hlI => ?_)
  subst e
  refine wpAny_bind (wpAny_newObj_type ?_)
  have W := Walks.list (prog := prog) (w := w) (A := A.in1) hh _ l hlI (intItems xs)
  rw [hn]
  refine wpAny_pure ⟨plainId_quiet F.plain_max_loop _, best_max d W _ (CmpOf.ints_gt (numAt xs) (fun _ _ => intItems_at)) _ (fun hm => Nat.lt_irrefl _ (hfp _ hm)) _ 0 _ #[] _ rfl (Nat.zero_le _) (W.frame _ _ _ st fun b _ o e => Heap.get?_push_of_some _ e) (.inl ⟨rfl, rfl⟩) (Heap.get?_push_size _ rfl) fun v h' tk hP hk => ?_⟩
  have hz : (intItems xs).size = xs.size := by simp [intItems]
  rw [hz] at hP
  refine h v h' tk hP fun b o e => ?_
  have hb := Heap.lt_size e
  refine hk b o (fun hm => ?_) (Nat.ne_of_lt (by rw [Heap.size_push]; exact Nat.lt_succ_of_lt hb)) (Heap.get?_push_of_some _ (Heap.get?_push_of_some _ e))
  rcases List.mem_cons.mp hm with e1 | hm
  · exact absurd (e1 ▸ hb) (Nat.lt_irrefl _)
  · cases hm
end

section
variable {prog : Program} {w : World} {A : Around} {R : Result → Shared → Prop} {I : Addr} {fp wr : List Addr} {n : Nat} {P : Nat → Value → Prop} {St : Nat → Heap → Prop}
theorem best_min (d : Value) (W : Walks prog w A.in1 I fp wr n P St) (bt : Nat → Nat → Bool) (hcmp : CmpOf prog w A.in1 .Lt P bt) (S : Addr) (hSf : S ∉ fp) :
    ∀ (k j : Nat) (s : Shared) (its : Array Value) (c : Nat), n - j = k → j ≤ n → St j s.heap →
    ((j = 0 ∧ its = #[]) ∨ ∃ vb, its = #[vb, vb] ∧ 0 < j ∧ P (argBest bt (j - 1)) vb) →
    s.heap.get? S = some { cls := .type "list", dict := none, data := .seq its c, slots := #[] } →
    (∀ v h' tk, (n = 0 ∧ v = d ∨ 0 < n ∧ P (argBest bt (n - 1)) v) → (∀ b o, b ∉ wr → b ≠ S → s.heap.get? b = some o → h'.get? b = some o) → R (.ok (.ret v)) { s with heap := h', toks := tk }) →
    codeAny (model prog w) A (.builtin "min.loop" ⟨[.ref I, .none, .ref S], [("default", d)]⟩) R s := by
  have hSw : S ∉ wr := fun h => hSf (W.sub _ h)
  have hn : (toString "min" ++ toString ".loop" : String) = "min.loop" := by decide
  intro k
  induction k with
  | zero =>
    intro j s its c hk hj hst hi hS hR
    have hin : j = n := by omega
    subst hin
    refine codeAny_builtin F.entry_min_loop ?_
    rw [Around.under_plainId F.plain_min_loop _]
    show wpAny _ A.in1 (seqItems? (.ref S) >>= _) _ _ s
    refine wpAny_bind (wpAny_seqItems hS rfl ?_)
    show wpAny _ A.in1 (tryCatch (pyNext (.ref I)) _ >>= _) _ _ s
    refine wpAny_bind (wpAny_tryCatch (W.done s _ _ hst fun h' tk hk' => ?_))
    rcases hi with ⟨e0, rfl⟩ | ⟨vb, rfl, h0, hP⟩
    · refine wpAny_bind (wpAny_rule ?_)
      exact wpAny_pure (hR d _ tk (.inl ⟨e0, rfl⟩) fun b o hbw _ e => hk' b o hbw e)
    · have hS' := hk' S _ hSw hS
      show wpAny _ A.in1 (updateSeq S (fun _ => #[]) >>= _) _ _ _
      refine wpAny_bind ?_
      refine wpAny_updateSeq hS' rfl (wpAny_bind (wpAny_letGo (wpAny_pure ?_)))
      exact hR vb _ tk (.inr ⟨h0, hP⟩) fun b o hbw hbS e => (Heap.get?_update_other _ _ (Ne.symm hbS)).trans (hk' b o hbw e)
  | succ k ih =>
    intro j s its c hk hj hst hi hS hR
    have hlt : j < n := by omega
    have go : ∀ {h' : Heap} {tk} {v : Value} (c' : Nat), (∀ b o, b ∉ wr → b ≠ S → s.heap.get? b = some o → h'.get? b = some o) → St (j + 1) h' → P (argBest bt j) v → h'.get? S = some { cls := .type "list", dict := none, data := .seq #[v, v] c', slots := #[] } →
        codeAny (model prog w) A (.builtin "min.loop" ⟨[.ref I, .none, .ref S], [("default", d)]⟩) R { s with heap := h', toks := tk } := fun c' kp st hv hS' =>
      ih (j + 1) _ #[_, _] c' (by omega) hlt st (.inr ⟨_, rfl, Nat.succ_pos _, hv⟩) hS' fun v' h'' tk'' hP' hk'' => hR v' h'' tk'' hP' fun b o hbw hbS e => hk'' b o hbw hbS (kp b o hbw hbS e)
    refine codeAny_builtin F.entry_min_loop ?_
    rw [Around.under_plainId F.plain_min_loop _]
    show wpAny _ A.in1 (seqItems? (.ref S) >>= _) _ _ s
    refine wpAny_bind (wpAny_seqItems hS rfl ?_)
    show wpAny _ A.in1 (tryCatch (pyNext (.ref I)) _ >>= _) _ _ s
    refine wpAny_bind (wpAny_tryCatch (W.item j s _ _ hlt hst fun v h' tk hP hst' hk' => ?_))
    have hS' := hk' S _ hSw hS
    rcases hi with ⟨e0, rfl⟩ | ⟨vb, rfl, h0, hPb⟩
    · subst e0
      show wpAny _ A.in1 (updateSeq S (fun _ => #[v, v]) >>= _) _ _ _
      refine wpAny_bind ?_
      refine wpAny_updateSeq hS' rfl ?_
      rw [hn]
      refine wpAny_pure ⟨plainId_quiet F.plain_min_loop _, go _ (fun b o hbw hbS e => (Heap.get?_update_other _ _ (Ne.symm hbS)).trans (hk' b o hbw e)) (W.frame _ _ _ hst' fun b hbf o e => ?_) hP (Heap.get?_update_self _ hS' rfl)⟩
      exact (Heap.get?_update_other _ _ (fun h : S = b => hSf (by rw [h]; exact hbf))).trans e
    · obtain ⟨i, rfl⟩ : ∃ i, j = i + 1 := ⟨j - 1, by omega⟩
      show wpAny _ A.in1 (tryCatch (holding [v, v] (richCompare .Lt v vb >>= _)) _ >>= _) _ _ _
      refine wpAny_bind (wpAny_tryCatch (wpAny_holding (wpAny_bind (hcmp (i + 1) (argBest bt i) v vb _ _ _ hP hPb ?_))))
      refine wpAny_bind (wpAny_holding (wpAny_truthy_bool ?_))
      refine wpAny_bind (wpAny_letGo (wpAny_pure ?_))
      cases hb : bt (i + 1) (argBest bt i) with
      | true =>
        simp only [if_true]
        refine wpAny_bind ?_
        refine wpAny_updateSeq hS' rfl (wpAny_bind (wpAny_letGo ?_))
        rw [hn]
        refine wpAny_pure ⟨plainId_quiet F.plain_min_loop _, go _ (fun b o hbw hbS e => (Heap.get?_update_other _ _ (Ne.symm hbS)).trans (hk' b o hbw e)) (W.frame _ _ _ hst' fun b hbf o e => ?_) (by simp only [argBest, hb, if_true]; exact hP) (Heap.get?_update_self _ hS' rfl)⟩
        exact (Heap.get?_update_other _ _ (fun h : S = b => hSf (by rw [h]; exact hbf))).trans e
      | false =>
        simp only [Bool.false_eq_true, if_false]
        refine wpAny_bind (wpAny_letGo ?_)
        rw [hn]
        exact wpAny_pure ⟨plainId_quiet F.plain_min_loop _, go c (fun b o hbw _ e => hk' b o hbw e) hst' (by simp only [argBest, hb, Bool.false_eq_true, if_false]; exact hPb) hS'⟩
theorem args_minD (a d : Value) : argsOk "min" ⟨[a], [("default", d)]⟩ := by unfold argsOk; kernel_rfl
end
section
variable {prog : Program} {w : World} {A : Around} {E : Value → Shared → Prop} {s : Shared} {l : Addr} {xs : Array (Int × Tok)}
theorem min_default {Q : Value → Shared → Prop} (d : Value) (hh : A.handled = none) (hl : s.heap.IsList l (intItems xs))
    (h : ∀ v h' tk, (xs.size = 0 ∧ v = d ∨ 0 < xs.size ∧ (intItems xs)[argBest (fun i j => decide (numAt xs i < numAt xs j)) (xs.size - 1)]? = some v) → (∀ b o, s.heap.get? b = some o → h'.get? b = some o) → Q v { s with heap := h', toks := tk }) :
    wpAny (model prog w) A (call (.builtin "min") [.ref l] [("default", d)]) Q E s := by
  have hn : (toString "min" ++ toString ".loop" : String) = "min.loop" := by decide
  refine tree_kw F.kind_min F.plain_min F.entry_min (args_minD _ _) ?_
  show wpAny _ A.in1 (Builtin.Builtins.bindParams "min" ["key", "default"] 0 ⟨[], [("default", d)]⟩ >>= _) _ _ s
  refine wpAny_bind (wpAny_of_eq (show Builtin.Builtins.bindParams "min" ["key", "default"] 0 ⟨[], [("default", d)]⟩ = pure [none, some d] from rfl) ?_)
  refine wpAny_bind (wpAny_pure ?_)
  refine wpAny_bind (iter_intList hl fun s₂ e st hfp hlI => ?_)
  subst e
  refine wpAny_bind (wpAny_newObj_type ?_)
  have W := Walks.list (prog := prog) (w := w) (A := A.in1) hh _ l hlI (intItems xs)
  rw [hn]
  refine wpAny_pure ⟨plainId_quiet F.plain_min_loop _, best_min d W _ (CmpOf.ints_lt (numAt xs) (fun _ _ => intItems_at)) _ (fun hm => Nat.lt_irrefl _ (hfp _ hm)) _ 0 _ #[] _ rfl (Nat.zero_le _) (W.frame _ _ _ st fun b _ o e => Heap.get?_push_of_some _ e) (.inl ⟨rfl, rfl⟩) (Heap.get?_push_size _ rfl) fun v h' tk hP hk => ?_⟩
  have hz : (intItems xs).size = xs.size := by simp [intItems]
  rw [hz] at hP
  refine h v h' tk hP fun b o e => ?_
  have hb := Heap.lt_size e
  refine hk b o (fun hm => ?_) (Nat.ne_of_lt (by rw [Heap.size_push]; exact Nat.lt_succ_of_lt hb)) (Heap.get?_push_of_some _ (Heap.get?_push_of_some _ e))
  rcases List.mem_cons.mp hm with e1 | hm
  · exact absurd (e1 ▸ hb) (Nat.lt_irrefl _)
  · cases hm
end
end PySem
namespace Lw
open PySem PySem.Spec L2 Evl PyProof.Rows
/-- max(xs, default=d), min(xs, default=d) of a list of ints -/
def rBest (K : PySem.W.Frag) (R : Int → Int → Prop) : List V → List V → Hp → VK → Prop := fun vs zs H Q => ∃ (a : Addr) (ns : List Int) (d : V), vs = [V.ref a] ∧ zs = [d] ∧ SqL K H a (ns.map V.int) ∧ (ns = [] → Q d H) ∧ ∀ m, m ∈ ns → (∀ y, y ∈ ns → R y m) → Q (.int m) H
section
variable {X : Cx}
theorem cr_maxD (hc : X.calm = true) : CallRK X (.builtin "max") ["default"] (rBest X.K fun y m => y ≤ m) := by
  intro pins s σ H vs zs us ws Q I r rz h
  obtain ⟨a, ns, d, rfl, rfl, hs, q0, q⟩ := h
  obtain ⟨its, rv, hl, _⟩ := I.list hs
  rw [Vals.ref1 r]
  obtain ⟨d', rfl, rd⟩ := vals1 rz
  have hi := rv.ints
  obtain ⟨xs, e⟩ := hi.allInts.items
  have hn : numsOf (intItems xs).toList = ns := by rw [← e]; exact hi.numsOf
  rw [nums_intItems] at hn
  subst hn
  have hl' : s.heap.IsList a (intItems xs) := e ▸ hl.isList
  refine max_default d' (I.ok.hd hc) hl' fun v h' tk hP hk => ?_
  rcases hP with ⟨h0, rfl⟩ | ⟨h0, hv⟩
  · have e0 : xs = #[] := Array.eq_empty_of_size_eq_zero h0
    subst e0
    exact ⟨d, H, I.kept hk, rd, q0 rfl⟩
  · obtain ⟨t, rfl⟩ := intItems_at hv
    obtain ⟨h1, h2⟩ := argBest_gt (numAt xs) (xs.size - 1)
    refine ⟨.int _, H, I.kept hk, ⟨_, rfl⟩, q _ ?_ fun b hb => ?_⟩
    · rw [numAt_eq]; exact PySem.getD_mem (by rw [List.length_map, Array.length_toList]; omega)
    · obtain ⟨j, hj, rfl⟩ := mem_getD hb
      rw [List.length_map, Array.length_toList] at hj
      rw [← numAt_eq]; exact h2 j (by omega)
theorem cr_minD (hc : X.calm = true) : CallRK X (.builtin "min") ["default"] (rBest X.K fun y m => m ≤ y) := by
  intro pins s σ H vs zs us ws Q I r rz h
  obtain ⟨a, ns, d, rfl, rfl, hs, q0, q⟩ := h
  obtain ⟨its, rv, hl, _⟩ := I.list hs
  rw [Vals.ref1 r]
  obtain ⟨d', rfl, rd⟩ := vals1 rz
  have hi := rv.ints
  obtain ⟨xs, e⟩ := hi.allInts.items
  have hn : numsOf (intItems xs).toList = ns := by rw [← e]; exact hi.numsOf
  rw [nums_intItems] at hn
  subst hn
  have hl' : s.heap.IsList a (intItems xs) := e ▸ hl.isList
  refine min_default d' (I.ok.hd hc) hl' fun v h' tk hP hk => ?_
  rcases hP with ⟨h0, rfl⟩ | ⟨h0, hv⟩
  · have e0 : xs = #[] := Array.eq_empty_of_size_eq_zero h0
    subst e0
    exact ⟨d, H, I.kept hk, rd, q0 rfl⟩
  · obtain ⟨t, rfl⟩ := intItems_at hv
    obtain ⟨h1, h2⟩ := argBest_lt (numAt xs) (xs.size - 1)
    refine ⟨.int _, H, I.kept hk, ⟨_, rfl⟩, q _ ?_ fun b hb => ?_⟩
    · rw [numAt_eq]; exact PySem.getD_mem (by rw [List.length_map, Array.length_toList]; omega)
    · obtain ⟨j, hj, rfl⟩ := mem_getD hb
      rw [List.length_map, Array.length_toList] at hj
      rw [← numAt_eq]; exact h2 j (by omega)
end
section
variable {X : Cx} {σ : L2.St} {H : Hp} {Q : VK} {x : Str} {p pos p2 : Pos} {e o i a : Expr} {es : List Expr} {kws : List Keyword}
theorem e_bltK {id : String} {ks : List Str} {r : List V → List V → Hp → VK → Prop} (hc : CallRK X (.builtin id) ks r) (hm : X.mg x = none) (hv : bootBuiltins x = some (.builtin id)) (h : WA X (e :: es) σ H fun vs H1 => WK X kws σ H1 fun zs H2 => r vs zs H2 Q)
    (hg : Gl X x := by rfl) (hn : x ≠ "__name__" := by decide) (hdb : (x == ("__debug__" : Str)) = false := by decide)
    (he : backTo pos (starEach (e :: es) X.env) = (false, eval e X.env) :: backTo pos (starEach es X.env) := by rfl) (hpl : (backTo pos (starEach (e :: es) X.env)).any (·.1) = false := by rfl)
    (hall : (backToKw pos (keywordEach kws X.env)).all (·.1.isSome) = true := by rfl) (hnone : (backToKw pos (keywordEach kws X.env)).any (·.1.isNone) = false := by rfl) (hks : (backToKw pos (keywordEach kws X.env)).filterMap (·.1) = ks := by rfl) :
    WE X (.Call (.Name x p) (e :: es) kws pos) σ H Q := ⟨_, pe_callBK hc hg hm hv WA.pa WK.pk hn hdb he hpl hall hnone hks, h⟩
/-! dicts -/
theorem e_dget (hu : X.A.units + 1 < cLine) (hs : NoSl i := by intro _ _; rfl) (h : WE X o σ H fun x H1 => WE X i σ H1 fun y H2 => ∃ a v, x = .ref a ∧ DGet H2 a y (some v) ∧ Q v H2) : WE X (.Subscript o i pos) σ H Q := ⟨_, pe_dget hu WE.pe WE.pe hs, h⟩
theorem t_dnotin {QT : Bool → Hp → Prop} (hu : X.A.units + 1 < cLine) (h1 : behindInMarks .NotIn o = false := by first | exact nobehind _ (by decide) (by decide) | rfl)
    (h : WE X i σ H fun y H1 => WE X o σ H1 fun x H2 => ∃ a r, x = .ref a ∧ DGet H2 a y r ∧ QT (!r.isSome) H2) : WT X (.Compare i [.NotIn] [o] pos) σ H QT := by
  refine ⟨_, pt_cmp (pc_dnotin hu WE.pe WE.pe) h1, ?_⟩
  show WE X i σ H fun y H1 => WE X o σ H1 fun x H2 => ∃ a r, x = .ref a ∧ DGet H2 a y r ∧ ∃ k, V.bl (!r.isSome) = .bl k ∧ QT k H2
  obtain ⟨t, ht, q⟩ := h
  refine ⟨t, ht, ?_⟩
  have e : (fun (y : V) (H1 : Hp) => WE X o σ H1 fun x H2 => ∃ a r, x = .ref a ∧ DGet H2 a y r ∧ ∃ k, V.bl (!r.isSome) = .bl k ∧ QT k H2) = (fun y H1 => WE X o σ H1 fun x H2 => ∃ a r, x = .ref a ∧ DGet H2 a y r ∧ QT (!r.isSome) H2) := by
    funext y H1
    congr 1
    funext x H2
    apply propext
    constructor
    · rintro ⟨a, r, e, g, k, ek, q⟩; cases ek; exact ⟨a, r, e, g, q⟩
    · rintro ⟨a, r, e, g, q⟩; exact ⟨a, r, e, g, _, rfl, q⟩
  rw [e]
  exact q
theorem s_dput {D : Ends} {value : Expr} {pos' : Pos} (hu : X.A.units + 1 < cLine) (hs : swapsWith value (some (.Subscript o i pos')) pos.line X.env = pure false := by rfl)
    (h : WE X value σ H fun v H1 => WE X o σ H1 fun x H2 => WE X i σ H2 fun y H3 => ∃ a H4, x = .ref a ∧ DPut H3 a y v H4 ∧ D.nx σ H4) : WS X (.Assign [.Subscript o i pos'] value pos) D σ H := ⟨_, ps_dput hu WE.pe WE.pe WE.pe hs, h⟩
theorem e_dnew (h : ∀ p, H p = none → Q (.ref p) (upd H p (.dK []))) : WE X (.Dict [] [] pos) σ H Q := ⟨_, pe_dnewK, h⟩
def tDcR (J : It) (g : TG) (tt : TT) (tk tv : TE) (vs : List Nat) (σ : L2.St) (H1 : Hp) (D : Addr) (Qd : Hp → Prop) : Prop := ∃ W : Nat → Nat → Hp → Prop, (∃ m, W 0 m (upd H1 D (.dK []))) ∧ ∀ i m H, W i m H →
  (J.stop i H ∧ Qd H) ∨ (J.go i H ∧ ∃ Nx : Hp → Prop, (∀ H', Nx H' → ∃ m', m' < m ∧ W (i + 1) m' H') ∧ ∀ x H', J.yld i H x H' → g x (wipe σ vs) H' fun σ2 H2 => wipe σ2 vs = wipe σ vs ∧ tt σ2 H2 fun b H3 =>
    if b = true then tk σ2 H3 fun y H4 => tv σ2 H4 fun z H5 => ∃ kvs k, y = kV k ∧ H5 D = some (.dK kvs) ∧ kvs.length < sizeLine ∧ Nx (upd H5 D (.dK (putK kvs k z))) else Nx H3)
theorem e_dc {tg iter kx vx : Expr} {ifs : List Expr} {scope : Scope} (own : List (Str × Nat)) (hN : X.N.Nodup) (ok : BlkOk X.N X.env.scope scope own := by exact blkOk_by (by decide +kernel)) (hc : X.calm = true := by rfl) (hs : ∀ x, foldedSetIterable iter X.env x = pure x := by intro _; rfl)
    (h : WI X tg iter σ H fun J H1 => ∀ D, H1 D = none → tDcR J (GBlk X scope tg) (TBlk X scope ifs) (EBlk X scope kx) (EBlk X scope vx) (own.map (·.2)) σ H1 D (Q (.ref D))) : WE X (.DictComp kx vx [⟨tg, iter, ifs, 0⟩] scope pos) σ H Q :=
  ⟨_, pe_dc hc hN WI.pi ok blk_g blk_t blk_e blk_e hs, h⟩
theorem e_slT {lo hi : Option Expr} (h : WE X a σ H fun x H1 => WO X lo σ H1 fun i H2 => WO X hi σ H2 fun j H3 => rSlT X.K x i j H3 Q) : WE X (.Subscript a (.Slice lo hi none p2) pos) σ H Q := ⟨_, pe_slice sl_tup WE.pe WO.po WO.po, h⟩
/-- over a walk, the new dict at D -/
theorem dc_it {J : It} {n : Nat} {G : Hp → Prop} {Y : Nat → Hp → V → Hp → Prop} {H1 : Hp} {g : TG} {tt : TT} {tk tv : TE} {vs : List Nat} {D : Addr} {Qd : Hp → Prop} (w : Walk J n G Y) (Pv : Nat → Hp → Prop) (h0 : Pv 0 (upd H1 D (.dK []))) (hG : ∀ i H, i ≤ n → Pv i H → G H)
    (hs : ∀ i x H H', i < n → Pv i H → Y i H x H' → g x (wipe σ vs) H' fun σ2 H2 => wipe σ2 vs = wipe σ vs ∧ tt σ2 H2 fun b H3 =>
      if b = true then tk σ2 H3 fun y H4 => tv σ2 H4 fun z H5 => ∃ kvs k, y = kV k ∧ H5 D = some (.dK kvs) ∧ kvs.length < sizeLine ∧ Pv (i + 1) (upd H5 D (.dK (putK kvs k z))) else Pv (i + 1) H3) (hd : ∀ H, Pv n H → Qd H) : tDcR J g tt tk tv vs σ H1 D Qd := by
  refine ⟨fun i m H => m = n - i ∧ i ≤ n ∧ Pv i H, ⟨n, by simp, Nat.zero_le _, h0⟩, ?_⟩
  rintro i m H ⟨rfl, hi, p⟩
  have q := hG i H hi p
  by_cases hlt : i < n
  · exact .inr ⟨w.goes i H hlt q, Pv (i + 1), fun H' p' => ⟨n - (i + 1), by omega, rfl, hlt, p'⟩, fun x H' y => hs i x H H' hlt p (w.yields i H x H' hlt q y)⟩
  · have e : i = n := by omega
    subst e
    exact .inl ⟨w.stops H q, hd H p⟩
end
end Lw
namespace Lw
open PySem PySem.Spec L2 Evl
/-! ### small things -/
theorem Das.put {α : Type} [DecidableEq α] [Dat α] {K : PySem.W.Frag} {B : Hp} {v : V} {x : α} : ∀ {vs : List V} {xs : List α} (i : Nat), Das K B vs xs → Dt K B v x → Das K B (vs.set i v) (xs.set i x)
  | [], [], _, h, _ => h
  | [], _ :: _, _, h, _ => by cases h
  | _ :: _, [], _, h, _ => by cases h
  | _ :: vs, _ :: xs, 0, h, d => by
    cases h with
    | cons a b => exact .cons d b
  | _ :: vs, _ :: xs, i + 1, h, d => by
    cases h with
    | cons a b => exact .cons a (Das.put i (show Das K B vs xs from b) d)
theorem Das.bools {K : PySem.W.Frag} {B : Hp} : ∀ {vs : List V} {bs : List Bool}, Das K B vs bs → vs = bs.map V.bl
  | [], [], _ => rfl
  | [], _ :: _, h => by cases h
  | _ :: _, [], h => by cases h
  | v :: vs, b :: bs, h => by
    cases h with
    | cons h hs => rw [List.map_cons, dt_bl (show Dt K B v b from h), Das.bools (show Das K B vs bs from hs)]
theorem Das.upto {α : Type} [DecidableEq α] [Dat α] {K : PySem.W.Frag} {B : Hp} : ∀ {vs : List V} {xs : List α} (n : Nat), Das K B vs xs → Das K B (vs.take n) (xs.take n)
  | _, _, 0, _ => by rw [List.take_zero, List.take_zero]; exact Das.nil
  | [], [], _ + 1, h => h
  | [], _ :: _, _, h => by cases h
  | _ :: _, [], _, h => by cases h
  | _ :: vs, _ :: xs, n + 1, h => by
    cases h with
    | cons a b => exact .cons a (Das.upto n (show Das K B vs xs from b))
theorem ixN_pos {n : Nat} {i : Int} (h0 : 0 ≤ i) (h1 : i < n) : ixN n i = some i.toNat := by
  unfold ixN
  rw [if_pos h0, if_pos h1]
theorem take_next {α : Type} {xs : List α} {i : Nat} {a : α} (h : xs[i]? = some a) : xs.take (i + 1) = xs.take i ++ [a] := by
  rw [List.take_add_one, h]
  rfl
theorem fmap_congr {α β : Type} {f g : α → Option β} : ∀ {l : List α}, (∀ a ∈ l, f a = g a) → l.filterMap f = l.filterMap g
  | [], _ => rfl
  | a :: l, h => by
    rw [List.filterMap_cons, List.filterMap_cons, h a List.mem_cons_self, fmap_congr fun b hb => h b (List.mem_cons_of_mem _ hb)]
theorem flat_ints : ∀ ns : List Int, (ns.map V.int).all flatV = true
  | [] => rfl
  | n :: ns => by rw [List.map_cons, List.all_cons, flat_ints ns]; rfl
theorem in_ints (y : Int) : ∀ ns : List Int, inV (.int y) (ns.map V.int) = decide (y ∈ ns) := by
  intro ns
  have hq : ∀ n : Int, eqV (.int n) (.int y) = decide (n = y) := fun n => by
    show (n == y) = _
    exact beq_dec n y
  rw [Bool.eq_iff_iff, decide_eq_true_eq]
  unfold inV
  rw [List.any_eq_true]
  constructor
  · rintro ⟨v, hv, e⟩
    obtain ⟨n, hn, rfl⟩ := List.mem_map.mp hv
    rw [hq, decide_eq_true_eq] at e
    rw [← e]
    exact hn
  · intro h
    exact ⟨.int y, List.mem_map.mpr ⟨y, h, rfl⟩, by rw [hq]; exact decide_eq_true rfl⟩
theorem walk_from {a n : Nat} : Walk (Itr (a : Nat) n) n (fun _ => True) (fun i H x H' => H' = H ∧ x = .int ((a + i : Nat) : Int)) :=
  (walk_range (lo := (a : Nat))).mono (fun _ h => h) fun i H x H' _ _ y => ⟨y.1, by rw [y.2]; show V.int ((a : Nat) + (i : Nat)) = _; rw [Int.natCast_add]⟩
/-! ### sorted, uniquely -/
def SrtI (ys ks : List Int) : Prop := ys.Perm ks ∧ ys.Pairwise (· ≤ ·)
theorem srtI_uniq {xs ys ks : List Int} (h1 : SrtI xs ks) (h2 : SrtI ys ks) : xs = ys := by
  have hp : xs.Perm ys := h1.1.trans h2.1.symm
  exact go xs ys hp h1.2 h2.2
where
  go : ∀ xs ys : List Int, xs.Perm ys → xs.Pairwise (· ≤ ·) → ys.Pairwise (· ≤ ·) → xs = ys
    | [], ys, h, _, _ => (List.nil_perm.mp h).symm
    | x :: xs, [], h, _, _ => absurd h.symm (by simp)
    | x :: xs, y :: ys, h, h1, h2 => by
      obtain ⟨a1, a2⟩ := List.pairwise_cons.mp h1
      obtain ⟨b1, b2⟩ := List.pairwise_cons.mp h2
      have e : x = y := by
        have m1 : x ∈ y :: ys := h.mem_iff.mp List.mem_cons_self
        have m2 : y ∈ x :: xs := h.mem_iff.mpr List.mem_cons_self
        rcases List.mem_cons.mp m1 with e | e
        · exact e
        · rcases List.mem_cons.mp m2 with e' | e'
          · exact e'.symm
          · have := a1 _ e'; have := b1 _ e; omega
      subst e
      rw [go xs ys (List.Perm.cons_inv h) a2 b2]
/-! ### the least and the greatest -/
def lmin (d : Int) : List Int → Int
  | [] => d
  | c :: cs => cs.foldl min c
def lmax (d : Int) : List Int → Int
  | [] => d
  | c :: cs => cs.foldl max c
theorem fold_min : ∀ (cs : List Int) (c : Int), (cs.foldl min c = c ∨ cs.foldl min c ∈ cs) ∧ cs.foldl min c ≤ c ∧ ∀ y ∈ cs, cs.foldl min c ≤ y
  | [], c => ⟨.inl rfl, Int.le_refl _, fun y h => nomatch h⟩
  | d :: cs, c => by
    obtain ⟨h1, h2, h3⟩ := fold_min cs (min c d)
    rw [List.foldl_cons]
    refine ⟨?_, by omega, fun y hy => ?_⟩
    · rcases h1 with h | h
      · rw [h]
        rcases Int.le_total c d with e | e
        · left; omega
        · right; rw [Int.min_eq_right e]; exact List.mem_cons_self
      · exact .inr (List.mem_cons_of_mem _ h)
    · rcases List.mem_cons.mp hy with rfl | hy
      · omega
      · exact h3 y hy
theorem fold_max : ∀ (cs : List Int) (c : Int), (cs.foldl max c = c ∨ cs.foldl max c ∈ cs) ∧ c ≤ cs.foldl max c ∧ ∀ y ∈ cs, y ≤ cs.foldl max c
  | [], c => ⟨.inl rfl, Int.le_refl _, fun y h => nomatch h⟩
  | d :: cs, c => by
    obtain ⟨h1, h2, h3⟩ := fold_max cs (max c d)
    rw [List.foldl_cons]
    refine ⟨?_, by omega, fun y hy => ?_⟩
    · rcases h1 with h | h
      · rw [h]
        rcases Int.le_total c d with e | e
        · right; rw [Int.max_eq_right e]; exact List.mem_cons_self
        · left; omega
      · exact .inr (List.mem_cons_of_mem _ h)
    · rcases List.mem_cons.mp hy with rfl | hy
      · omega
      · exact h3 y hy
theorem lmin_is {d m : Int} {cs : List Int} (h1 : m ∈ cs) (h2 : ∀ y ∈ cs, m ≤ y) : m = lmin d cs := by
  cases cs with
  | nil => cases h1
  | cons c cs =>
    obtain ⟨k1, k2, k3⟩ := fold_min cs c
    show m = cs.foldl min c
    have a : m ≤ cs.foldl min c := by
      rcases k1 with h | h
      · rw [h]; exact h2 c List.mem_cons_self
      · exact h2 _ (List.mem_cons_of_mem _ h)
    have b : cs.foldl min c ≤ m := by
      rcases List.mem_cons.mp h1 with rfl | h
      · exact k2
      · exact k3 m h
    omega
theorem lmax_is {d m : Int} {cs : List Int} (h1 : m ∈ cs) (h2 : ∀ y ∈ cs, y ≤ m) : m = lmax d cs := by
  cases cs with
  | nil => cases h1
  | cons c cs =>
    obtain ⟨k1, k2, k3⟩ := fold_max cs c
    show m = cs.foldl max c
    have a : cs.foldl max c ≤ m := by
      rcases k1 with h | h
      · rw [h]; exact h2 c List.mem_cons_self
      · exact h2 _ (List.mem_cons_of_mem _ h)
    have b : m ≤ cs.foldl max c := by
      rcases List.mem_cons.mp h1 with rfl | h
      · exact k2
      · exact k3 m h
    omega
section
variable {X : Cx} {σ : L2.St} {H : Hp} {Q : VK} {a e : Expr} {p p2 p3 q pos : Pos}
/-- len(set(xs)) of different ints -/
theorem e_lenSet (hm : X.mg "len" = none) (hm2 : X.mg "set" = none) (hg : Gl X "len" := by rfl) (hg2 : Gl X "set" := by rfl) (hc : X.calm = true := by rfl) (na : starEach [a] X.env = (false, eval a X.env) :: starEach [] X.env := by rfl)
    (h : WE X a σ H fun x H1 => ∃ (l : Addr) (ns : List Int), x = .ref l ∧ SqL X.K H1 l (ns.map V.int) ∧ ns.Nodup ∧ ns.length ≤ 4000 ∧ Q (.int (ns.length : Nat)) H1) : WE X (.Call (.Name "len" p) [.Call (.Name "set" p2) [a] [] q] [] pos) σ H Q := ⟨_, RZ.pe_lenSetI hg hm hg2 hm2 WE.pe hc na, h⟩
end
end Lw
/-! Defs that may raise, own errors, try; great powers; zip of tuples; op= of names. -/
namespace Lw
open PySem PySem.Spec L2 Evl

/-! ### great powers -/
def CPowW (i j : Int) : Prop := 0 ≤ j ∧ (Builtin.Int.intBits i : Int) * j ≤ 2 ^ 27
section
variable {X : Cx} {σ : L2.St} {H : Hp} {Q : VK} {a b e : Expr} {pos p2 : Pos}
theorem op_powW : OpR X (binaryOp .Pow) (rI CPowW fun i j => .int (i ^ j.toNat)) := opI fun _ _ _ _ _ _ _ hc q => PyProof.Rows.pow_int hc.1 hc.2 q
theorem e_powW (h : WE X a σ H fun x H1 => WE X b σ H1 fun y H2 => ∃ i j, x = .int i ∧ y = .int j ∧ CPowW i j ∧ Q (.int (i ^ j.toNat)) H2) : WE X (.BinOp a .Pow b pos) σ H Q := e_bin op_powW h
end
theorem bits_le {i : Int} {n : Nat} (h : i.natAbs < 2 ^ n) : Builtin.Int.intBits i ≤ n := by
  unfold Builtin.Int.intBits
  split
  · omega
  · rename_i h0
    have h0' : i.natAbs ≠ 0 := by
      intro z
      apply h0
      rw [beq_iff_eq]
      omega
    have := (Nat.log2_lt h0').mpr h
    omega
theorem powW_of {i j : Int} {n : Nat} (h : i.natAbs < 2 ^ n) (h0 : 0 ≤ j) (h1 : (n : Int) * j ≤ 2 ^ 27) : CPowW i j := by
  refine ⟨h0, Int.le_trans (Int.mul_le_mul_of_nonneg_right ?_ h0) h1⟩
  exact_mod_cast bits_le h

/-! ### calls of defs that may raise -/
structure CalX (P : Program) (w : World) (K : PySem.W.Frag) (mg : Str → Option Value) (base : Heap) (x : Str) (k : Nat) (ps : List Str) (sp : Sp) : Prop where
  ex : ∃ f fd, FnOk P w K mg base (L2.CX P w) k f fd ps sp ∧ mg x = some (.ref f) ∧ PySem.W.keepIn K (.ref f) = true ∧ Binds K fd ps []
structure CalKX (P : Program) (w : World) (K : PySem.W.Frag) (mg : Str → Option Value) (base : Heap) (x : Str) (k : Nat) (ps ks : List Str) (gV : List V → List V) (sp : Sp) : Prop where
  ex : ∃ f fd g, FnOk P w K mg base (L2.CX P w) k f fd ps sp ∧ mg x = some (.ref f) ∧ PySem.W.keepIn K (.ref f) = true ∧ KBn K fd ps 0 ks g (fun _ zs => gV zs)
section
variable {X : Cx} {σ : L2.St} {H : Hp} {Q : VK} {a b c e o : Expr} {pos p2 apos : Pos} {x m : Str} {v : V} {es : List Expr} {k : Nat} {ps ks : List Str} {sp : Sp} {gV : List V → List V} {W : WX}
theorem e_callX (cl : CalX X.prog X.w X.K X.mg X.base x k ps sp) (tk : Takes X W) (hr : Room k X.A) (hg : Gl X x := by rfl) (hdb : (x == ("__debug__" : Str)) = false := by decide) (he : starEach (e :: es) X.env = (false, eval e X.env) :: starEach es X.env := by rfl) (hpl : (backTo pos (starEach es X.env)).any (·.1) = false := by rfl)
    (h : WA X (e :: es) σ H fun vs H1 => sp vs H1 Q (fun cls d H' => W cls d σ H')) : WE X (.Call (.Name x p2) (e :: es) [] pos) σ H Q := by
  obtain ⟨f, fd, F, hm, hk, hb⟩ := cl.ex
  exact ⟨_, pe_callS (E := L2.WE W) F hr hg hm hk hb (fun σ => passAt tk σ) WA.pa hdb he hpl, h⟩
theorem pe_callN1 {CX : CXT} {f : Addr} {fd : FuncData} {E : XK} {kws : List Keyword} {tk : TA} {g : List Value → List Value → List Value} {gW : List V → List V → List V} (F : FnOk X.prog X.w X.K X.mg X.base CX k f fd ps sp) (hr : Room k X.A) (hg : Gl X x) (hm : X.mg x = some (.ref f)) (hk : PySem.W.keepIn X.K (.ref f) = true) (hb : KBn X.K fd ps 0 ks g gW) (hx : Passes CX X E)
    (hkw : PK X kws tk) (hall : (backToKw pos (keywordEach kws X.env)).all (·.1.isSome) = true := by rfl) (hks : (backToKw pos (keywordEach kws X.env)).filterMap (·.1) = ks := by rfl)
    (hdb : (x == ("__debug__" : Str)) = false := by decide)
    (hpl : ((backTo pos (starEach [] X.env)).any (·.1) || (backToKw pos (keywordEach kws X.env)).any (·.1.isNone)) = false := by rfl) :
    PE X (.Call (.Name x p2) [] kws pos) (tCallN 0 ks.length sp gW E tNil tk) := pe_callN0 F hr hg hm hk hb hx hkw hall hks hdb hpl
/-- by keywords alone, where it raises nothing -/
theorem e_callKX {kws : List Keyword} (cl : CalKX X.prog X.w X.K X.mg X.base x k ps ks gV sp) (hr : Room k X.A) (hg : Gl X x := by rfl) (hdb : (x == ("__debug__" : Str)) = false := by decide)
    (hall : (backToKw pos (keywordEach kws X.env)).all (·.1.isSome) = true := by rfl) (hks : (backToKw pos (keywordEach kws X.env)).filterMap (·.1) = ks := by rfl)
    (hpl : ((backTo pos (starEach [] X.env)).any (·.1) || (backToKw pos (keywordEach kws X.env)).any (·.1.isNone)) = false := by rfl)
    (h : WK X kws σ H fun zs H1 => ([] : List V).length = 0 ∧ zs.length = ks.length ∧ sp (gV zs) H1 Q E0) : WE X (.Call (.Name x p2) [] kws pos) σ H Q := by
  obtain ⟨f, fd, g, F, hm, hk, hb⟩ := cl.ex
  exact ⟨_, pe_callN0 F hr hg hm hk hb passL WK.pk hall hks hdb hpl, h⟩
end

/-! ### own error classes over ValueError with one attribute -/
/-- __init__: self.value = value -/
def sp_wi (K : PySem.W.Frag) : Sp := fun vs H Q _ => ∃ (a C : Addr) (v : V), vs = [.ref a, v] ∧ OexC K C ∧ PySem.W.findIn K (.ref C) "value" = some none ∧ H a = some (exo a C none) ∧
  ∀ dx, H dx = none → dx ≠ a → Q .non (upd (upd H dx (exd dx [(("value" : Str), v)])) a (exo a C (some dx)))
structure ExC (P : Program) (w : World) (K : PySem.W.Frag) (mg : Str → Option Value) (base : Heap) (x : Str) (C : Addr) : Prop where
  gC : mg x = some (.ref C)
  ox : OexC K C
  xf : XfC K C
  nv : PySem.W.findIn K (.ref C) "value" = some none
  te : PySem.W.exmOne K (.ref C) (.ref C) = some true
  ini : ∃ fI fd, FnOk P w K mg base CX0 1 fI fd ["self", "value"] (sp_wi K) ∧ PySem.W.findIn K (.ref C) "__init__" = some (some (.ref fI)) ∧ PySem.W.typeIn K (.ref fI) = some (.type "function") ∧ Binds K fd ["self", "value"] []
/-- an error's dict -/
abbrev xv (v : V) : HO := .xd [(("value" : Str), v)]
theorem WE.mono {X : Cx} {σ : L2.St} {H : Hp} {Q Q' : VK} {e : Expr} (h : WE X e σ H Q) (hq : ∀ v H, Q v H → Q' v H) : WE X e σ H Q' :=
  ⟨fun σ H Q' => ∃ Q, WE X e σ H Q ∧ ∀ v H, Q v H → Q' v H, ⟨fun pins s σ H Q' I h' => by
    obtain ⟨Q, h1, h2⟩ := h'
    exact thn (WE.pe.run pins s σ H Q I h1) fun u s1 ⟨v, H1, I1, r, q⟩ => ⟨v, H1, I1, r, h2 _ _ q⟩⟩, Q, h, hq⟩
theorem WA.up {X : Cx} {es : List Expr} : PA X es (fun σ H Q => ∃ Q0, WA X es σ H Q0 ∧ ∀ vs H, Q0 vs H → Q vs H) := ⟨fun pos pins s σ H Q I h => by
  obtain ⟨Q0, h1, h2⟩ := h
  exact thn (WA.pa.run pos pins s σ H Q0 I h1) fun us s1 ⟨vs, H1, I1, r, q⟩ => ⟨vs, H1, I1, r, h2 _ _ q⟩⟩
section
variable {X : Cx} {σ : L2.St} {H : Hp} {Q : VK} {D : Ends} {a b e o : Expr} {p p' pos pos2 : Pos} {x : Str} {C : Addr} {W : WX} {f : Str}
/-- self.f = e of an error that is being made -/
theorem s_ost (hs : swapsWith e (some (.Attribute o f p')) pos.line X.env = pure false := by rfl) (h : tOst X.K f (WE X o) (WE X e) D σ H) : WS X (.Assign [.Attribute o f p'] e pos) D σ H := ⟨_, ps_ost WE.pe WE.pe hs, h⟩
/-- raise X(e) -/
theorem s_raiseO (T : ExC X.prog X.w X.K X.mg X.base x C) (tk : Takes X W) (hr : Room 2 X.A) (hc : X.calm = true := by rfl) (hg : Gl X x := by rfl) (hdb : (x == ("__debug__" : Str)) = false := by decide)
    (he : starEach (e :: []) X.env = (false, eval e X.env) :: starEach [] X.env := by rfl) (hpl : (backTo pos (starEach [] X.env)).any (·.1) = false := by rfl)
    (h : WE X e σ H fun v H1 => ∀ d H', (∀ q u, H1 q = some u → H' q = some u) → (∀ q, H1 q ≠ none → H' q ≠ none) → H1 d = none → H' d = some (xv v) → W (.ref C) (some d) σ H') : WS X (.Raise (some (.Call (.Name x p) [e] [] pos)) none pos2) D σ H := by
  obtain ⟨fI, fd, F, hi, ht, hb⟩ := T.ini
  refine ⟨_, ps_raise hc tk (pmk_oex (es := []) (dvs := []) (ds := []) T.ox hi ht F hr hb .nil pass0 hg T.gC WA.pa hdb he hpl), ?_⟩
  refine a_cons he (h := WE.mono h fun v H1 hv => a_nil ?_)
  refine ⟨(by decide : 1 ≤ 1000), fun a ha => ⟨a, C, v, rfl, T.ox, T.nv, upd_same, fun dx h1 h2 => ⟨rfl, dx, [(("value" : Str), v)], upd_same, ?_, upd_none h1, ?_⟩⟩⟩
  · rw [upd_ne h2, upd_same]
  · have hd1 : H1 dx = none := upd_none h1
    have key : ∀ q u, H1 q = some u → upd (del (upd (upd (upd H1 a (exo a C none)) dx (exd dx [(("value" : Str), v)])) a (exo a C (some dx))) a) dx (xv v) q = some u := fun q u hq => by
      have n1 : q ≠ a := ne_of_none hq ha
      have n2 : q ≠ dx := ne_of_none hq hd1
      rw [upd_ne n2, del_ne n1, upd_ne n1, upd_ne n2, upd_ne n1]
      exact hq
    refine hv dx _ key (fun q hq => ?_) hd1 upd_same
    cases e' : H1 q with
    | none => exact absurd e' hq
    | some u =>
      rw [key q u e']
      exact fun z => nomatch z
/-- err.f in an except suite -/
theorem e_xf {a : Addr} {oe : Obj} {cls : Value} {d : Option Addr} {pn : List (Addr × Obj)} (T : XfC X.K C) (hno : PySem.W.findIn X.K (.ref C) f = some none) (hz : Zc cls d oe) (hf : ∃ vs, oe.data = .fields vs)
    (hb : attributeBase e f X.env (eval e X.env) = eval e X.env := by rfl) (h : WE (X.suite a ((a, oe) :: pn)) e σ H fun y H1 => y = .ref a ∧ cls = .ref C ∧ ∃ (dd : Addr) (fs : List (Str × V)) (v : V), d = some dd ∧ H1 dd = some (.xd fs) ∧ fs.lookup f = some v ∧ Q v H1) :
    WE (X.suite a ((a, oe) :: pn)) (.Attribute e f pos) σ H Q := ⟨_, pe_xf T hno hz hf WE.pe hb, h⟩
/-- the ends of an except suite whose error has the name in slot i -/
abbrev wipedAt (i : Nat) (D : Ends) : Ends := { nx := fun σ' H' => D.nx (σ'.set i none) H', rt := D.rt, bk := fun σ' H' => D.bk (σ'.set i none) H', ct := fun σ' H' => D.ct (σ'.set i none) H' }
/-- try: body / except x as n: suite -/
theorem s_tryAs (i : Nat) {n : Str} {np : Pos} {body suite : List Stmt} {b₀ : Stmt} {c : Addr} (hN : X.N.Nodup) (hm : X.mg x = some (.ref c)) (hs : X.stack = X.env :: X.outer := by rfl) (hf : X.env.frame = some X.env.locals := by rfl) (hi : X.N[i]? = some n := by rfl) (hln : X.env.kindOf n = some .local := by rfl)
    (hg : Gl X x := by rfl) (hdb : (x == ("__debug__" : Str)) = false := by decide)
    (h : ∀ (W : WX) (pn : List (Addr × Obj)) (xe : Value → Shared → Prop), Takes (X.tr pn xe) W → PassesOwn (model X.prog X.w) X.A X.env xe →
      (∀ (C dd : Addr) (σ' : L2.St) (H' : Hp), PySem.W.exmOne X.K (.ref C) (.ref c) = some true →
        (∀ (a : Addr) (oe : Obj) (pn : List (Addr × Obj)), Zc (.ref C) (some dd) oe → (∃ vs, oe.data = .fields vs) → H' a = none → WSs (X.suite a ((a, oe) :: pn)) (b₀ :: suite) (wipedAt i D) (σ'.set i (some (.ref a))) H') → W (.ref C) (some dd) σ' H') →
      WSs (X.tr pn xe) body D σ H) : WS X (.Try body [.ExceptHandler (some (.Name x np)) (some n) (b₀ :: suite) p'] [] [] pos) D σ H := by
  refine ⟨_, ps_try_as (i := i) (tb := fun W D σ H => ∀ pn xe, Takes (X.tr pn xe) W → PassesOwn (model X.prog X.w) X.A X.env xe → WSs (X.tr pn xe) body D σ H)
    (ts := fun a cls d D' σ' H' => ∀ (oe : Obj) (pn : List (Addr × Obj)), Zc cls d oe → (∃ vs, oe.data = .fields vs) → WSs (X.suite a ((a, oe) :: pn)) (b₀ :: suite) D' σ' H') (Wout := fun _ _ _ _ => False) hs hf hN hi hln ⟨hg, hdb, .inl hm⟩ takes0
    (fun W pn xe tk po => ⟨fun pins s σ H D I h => WSs.pss.run pins s σ H D I (h pn xe tk po)⟩) (fun a oe cls d pn hz hf' => ⟨fun pins s σ H D I h => WSs.pss.run pins s σ H D I (h oe pn hz hf')⟩), ?_⟩
  intro pn xe tk po
  exact h _ pn xe tk po fun C dd σ' H' te hsu => ⟨true, te, fun _ a ha oe pn hz hf' => hsu a oe pn hz hf' ha, fun z => nomatch z⟩
/-- n += e, ints -/
theorem s_augAdd (i : Nat) {n : Str} (hN : X.N.Nodup) (hi : X.N[i]? = some n := by rfl) (hx : Loc X.env.scope n := by first | exact Or.inl rfl | exact Or.inr rfl) (hf : X.fn n = true ∨ X.env.scope.names.lookup n = some .local := by first | exact .inl rfl | exact .inr rfl | assumption)
    (h : ∃ v, σ[i]? = some (some v) ∧ WE X e σ H fun y H1 => ∃ a b, v = .int a ∧ y = .int b ∧ D.nx (σ.set i (some (.int (a + b)))) H1) : WS X (.AugAssign (.Name n p') .Add e pos) D σ H := ⟨_, ps_aug hN hi hx WE.pe ip_add hf, h⟩
end

/-! ### zip of tuples -/
section
variable {K : PySem.W.Frag} {a b : Addr} {xs ys : List V}
theorem walk_zipT {n : Nat} (hn : n = min xs.length ys.length) : Walk (RZ.ItzT K a b) n (fun H => SqT K H a xs ∧ SqT K H b ys) (YPair (fun i => xs[i]?) (fun i => ys[i]?)) := by
  subst hn
  refine ⟨fun i _ hi q => ?_, fun _ q => ⟨xs, ys, q.1, q.2, by omega⟩, fun i H v H' _ q y => ?_⟩
  · have h1 : i < xs.length := by omega
    have h2 : i < ys.length := by omega
    exact ⟨xs, ys, xs[i], ys[i], q.1, q.2, by simp [h1], by simp [h2]⟩
  · obtain ⟨T, x, z, h1, h2, h3, h4, h5⟩ := y
    exact ⟨T, x, z, h1, h2, h3, h4 xs q.1, h5 ys q.2⟩
end
theorem i_zipT {X : Cx} {σ : L2.St} {H : Hp} {a b : Expr} {pos p2 : Pos} {R : It → Hp → Prop} {elts : List Expr} {kk : Nat} {tpos : Pos} (hm : X.mg "zip" = none) (hg : Gl X "zip" := by rfl) (hs : starEach [a, b] X.env = (false, eval a X.env) :: starEach [b] X.env := by rfl) (hpl : (backTo pos (starEach [b] X.env)).any (·.1) = false := by rfl)
    (h : WA X [a, b] σ H fun vs H1 => ∃ p q xs ys, vs = [.ref p, .ref q] ∧ SqT X.K H1 p xs ∧ SqT X.K H1 q ys ∧ R (RZ.ItzT X.K p q) H1) : WI X (.Tuple elts kk tpos) (.Call (.Name "zip" p2) [a, b] [] pos) σ H R := by
  exact ⟨_, RZ.pi_zipA hg hm WA.up hs hpl, _, h, fun vs H1 ⟨p, q, xs, ys, e, h1, h2, r⟩ => ⟨p, q, xs, ys, e, .inr ⟨h1, h2, r⟩⟩⟩

/-! ### defs of the text -/
def Fn (K : PySem.W.Frag) (mg : Str → Option Value) (x : Str) (st : Stmt) : Prop := ∃ f fd, Fun K x x st f fd ∧ mg x = some (.ref f)
section
variable {P : Program} {w : World} {K : PySem.W.Frag} {mg : Str → Option Value} {base : Heap} {x : Str} {st : Stmt} {N ps ks : List Str} {k : Nat} {sp : Sp}
abbrev BodyOk (P : Program) (w : World) (K : PySem.W.Frag) (mg : Str → Option Value) (base : Heap) (x : Str) (st : Stmt) (N : List Str) (k : Nat) (sp : Sp) : Prop :=
  ∀ (f : Addr) (cdv : Value) (A : Around) (outer : List Env) (s : Shared) (H : Hp) (vs : List V) (Q : VK) (E : XK), Room k (A.deeper (PyProof.Rows.envOfC x (defScope st) s.heap.objs.size f cdv)) → sp vs H Q E →
      WSs (cxOf CX0 P w K mg base N x (defScope st) f cdv A outer s H E).nox (defBody st) { nx := fun _ H' => Q .non H', rt := Q } (start N vs) H
/-- .. of a def that may raise -/
abbrev BodyOkX (P : Program) (w : World) (K : PySem.W.Frag) (mg : Str → Option Value) (base : Heap) (x : Str) (st : Stmt) (N : List Str) (k : Nat) (sp : Sp) : Prop :=
  ∀ (f : Addr) (cdv : Value) (A : Around) (outer : List Env) (s : Shared) (H : Hp) (vs : List V) (Q : VK) (E : XK), Room k (A.deeper (PyProof.Rows.envOfC x (defScope st) s.heap.objs.size f cdv)) → sp vs H Q E →
      Takes (cxOf (L2.CX P w) P w K mg base N x (defScope st) f cdv A outer s H E) (fun cls d _ H => E cls d H) → PassesOwn (model P w) (cxOf (L2.CX P w) P w K mg base N x (defScope st) f cdv A outer s H E).A (cxOf (L2.CX P w) P w K mg base N x (defScope st) f cdv A outer s H E).env (cxOf (L2.CX P w) P w K mg base N x (defScope st) f cdv A outer s H E).xe →
      WSs (cxOf (L2.CX P w) P w K mg base N x (defScope st) f cdv A outer s H E) (defBody st) { nx := fun _ H' => Q .non H', rt := Q } (start N vs) H
theorem ok_of (S : FnScope N ps (defScope st)) (len : ∀ vs H Q E, sp vs H Q E → vs.length = ps.length) (body : BodyOk P w K mg base x st N k sp) : ∀ f fd, Fun K x x st f fd → FnOk P w K mg base CX0 (k + 1) f fd ps sp :=
  fun f fd F => F.ok S len (body f)
theorem okX_of (S : FnScope N ps (defScope st)) (len : ∀ vs H Q E, sp vs H Q E → vs.length = ps.length) (body : BodyOkX P w K mg base x st N k sp) : ∀ f fd, Fun K x x st f fd → FnOk P w K mg base (L2.CX P w) (k + 1) f fd ps sp :=
  fun f fd F => F.okX S len fun cdv A outer s H vs Q E hr hsp => body f cdv A outer s H vs Q E hr hsp (takes_of rfl rfl rfl rfl) (passes_of rfl)
theorem cal_fn (d : Fn K mg x st) (ok : ∀ f fd, Fun K x x st f fd → FnOk P w K mg base CX0 k f fd ps sp)
    (hb : ∀ (kV doc pm : Value) (an : Option Addr) (cdv ct : Value) (us : List Value), us.length = ps.length → bindArgs (PySem.W.fnOf x x (defArgs st) (defBody st) (defScope st) .none kV doc pm an cdv ct) ⟨us, []⟩ = pure (ps.zip us)) : Cal P w K mg base x k ps sp := by
  obtain ⟨f, fd, F, hm⟩ := d
  exact ⟨f, fd, ok f fd F, hm, F.kp, F.binds hb⟩
theorem calX_fn (d : Fn K mg x st) (ok : ∀ f fd, Fun K x x st f fd → FnOk P w K mg base (L2.CX P w) k f fd ps sp)
    (hb : ∀ (kV doc pm : Value) (an : Option Addr) (cdv ct : Value) (us : List Value), us.length = ps.length → bindArgs (PySem.W.fnOf x x (defArgs st) (defBody st) (defScope st) .none kV doc pm an cdv ct) ⟨us, []⟩ = pure (ps.zip us)) : CalX P w K mg base x k ps sp := by
  obtain ⟨f, fd, F, hm⟩ := d
  exact ⟨f, fd, ok f fd F, hm, F.kp, F.binds hb⟩
theorem calK_fn (g : {α : Type} → List α → List α) (d : Fn K mg x st) (ok : ∀ f fd, Fun K x x st f fd → FnOk P w K mg base CX0 k f fd ps sp) (hg : ∀ {vs : List V} {us : List Value}, Vals vs us → Vals (g vs) (g us))
    (hb : ∀ (kV doc pm : Value) (an : Option Addr) (cdv ct : Value) (ws : List Value), ws.length = ks.length → bindArgs (PySem.W.fnOf x x (defArgs st) (defBody st) (defScope st) .none kV doc pm an cdv ct) ⟨[], ks.zip ws⟩ = pure (ps.zip (g ws))) : CalK P w K mg base x k ps ks g sp := by
  obtain ⟨f, fd, F, hm⟩ := d
  refine ⟨f, fd, fun _ ws => g ws, ok f fd F, hm, F.kp, ⟨fun s us ws _ l1 l2 => ?_, fun _ r => hg r⟩⟩
  have e : us = [] := List.length_eq_zero_iff.mp l1
  subst e
  obtain ⟨oc, od, kV, doc, pm, an, cdv, ct, osl, rfl, lk, hcd⟩ := F.ex
  exact BindsTo.of_eq (hb kV doc pm an cdv ct ws l2)
theorem calKX_fn (g : {α : Type} → List α → List α) (d : Fn K mg x st) (ok : ∀ f fd, Fun K x x st f fd → FnOk P w K mg base (L2.CX P w) k f fd ps sp) (hg : ∀ {vs : List V} {us : List Value}, Vals vs us → Vals (g vs) (g us))
    (hb : ∀ (kV doc pm : Value) (an : Option Addr) (cdv ct : Value) (ws : List Value), ws.length = ks.length → bindArgs (PySem.W.fnOf x x (defArgs st) (defBody st) (defScope st) .none kV doc pm an cdv ct) ⟨[], ks.zip ws⟩ = pure (ps.zip (g ws))) : CalKX P w K mg base x k ps ks g sp := by
  obtain ⟨f, fd, F, hm⟩ := d
  refine ⟨f, fd, fun _ ws => g ws, ok f fd F, hm, F.kp, ⟨fun s us ws _ l1 l2 => ?_, fun _ r => hg r⟩⟩
  have e : us = [] := List.length_eq_zero_iff.mp l1
  subst e
  obtain ⟨oc, od, kV, doc, pm, an, cdv, ct, osl, rfl, lk, hcd⟩ := F.ex
  exact BindsTo.of_eq (hb kV doc pm an cdv ct ws l2)
end
end Lw
namespace Lw
open PySem L2 Evl
/-! ### what many defs hand back -/
/-- a new list of such data, the caller's | data that stay -/
def RetL {β : Type} [DecidableEq β] [Dat β] (K : PySem.W.Frag) (B H : Hp) (Q : VK) (ys : List β) : Prop := ∀ D B' H' acc, Gr M0 B H B' H' → B' D = none → H D = none → H' D = some (.lst acc) → Das K B' acc ys → Q (.ref D) H'
def RetD {β : Type} [DecidableEq β] [Dat β] (K : PySem.W.Frag) (B H : Hp) (Q : VK) (y : β) : Prop := ∀ v B' H', Gr M0 B H B' H' → Dt K B' v y → Q v H'
theorem RetD.l {K : PySem.W.Frag} {β : Type} [DecidableEq β] [Dat β] {B H : Hp} {Q : VK} {ys : List β} (h : RetD K B H Q ys) : RetL K B H Q ys := fun D B' H' acc g b h0 e d =>
  h (.ref D) (upd B' D (.lst acc)) H' (g.learn h0 b e) (dtL (SqL.of upd_same) (d.mono (Ex.new b)))
/-- an error with a number, raised when all that was tracked stands as it was -/
def Rai (C : Addr) (H : Hp) (E : XK) (n : Int) : Prop := ∀ d H', Ex H H' → H d = none → H' d = some (xv (.int n)) → E (.ref C) (some d) H'
theorem Rai.up {C : Addr} {H H1 : Hp} {E : XK} {n : Int} (h : Rai C H E n) (e : Ex H H1) : Rai C H1 E n := fun d H' e' hd hx => h d H' (e.trans e') (fresh_back e hd) hx
theorem gr_ex {B H H' : Hp} (k : Ex B H) (e : Ex H H') : Gr M0 B H B H' := by
  refine ⟨.refl B, k.trans e, fun a o _ h => e a o h, fun a h => ?_, fun a h _ => h⟩
  cases q : H a with
  | none => exact absurd q h
  | some u => rw [e a u q]; exact fun z => nomatch z
/-! ### pairs of ints -/
abbrev I2 := Int × Int
section
variable {K : PySem.W.Frag} {B : Hp} {v : V}
theorem dt_i2 {p : I2} (h : Dt K B v p) : ∃ a, v = .ref a ∧ SqT K B a [.int p.1, .int p.2] := by
  obtain ⟨a, y, z, e, hT, d1, d2⟩ := dt_pair h
  cases dt_int d1
  cases dt_int d2
  exact ⟨a, e, hT⟩
theorem dtI2 {a : Addr} {x y : Int} (h : SqT K B a [.int x, .int y]) : Dt K B (.ref a) ((x, y) : I2) := dtP h (dtI x) (dtI y)
end
/-! ### Python's max, min, abs -/
theorem py_max (i j : Int) : (if j > i then j else i) = max i j := by split <;> omega
theorem py_min (i j : Int) : (if j < i then j else i) = min i j := by split <;> omega
theorem py_abs (i : Int) : (if i < 0 then -i else i) = (i.natAbs : Int) := by split <;> omega
theorem sq_int {n : Nat} {i : Int} (h : i.natAbs < n) (m : Nat) (hm : n ≤ m) : i.natAbs < m := Nat.lt_of_lt_of_le h hm
/-! ### isinstance of what is read -/
theorem tyx_t {K : PySem.W.Frag} {H : Hp} {a : Addr} {xs : List V} (h : SqT K H a xs) : TyX K H (.ref a) (.type "tuple") := by
  rcases h with (h | ⟨o, h⟩) | ⟨o, its, n, h1, h2, _⟩
  · exact .base (.tup h)
  · exact .fTuple h
  · exact .kTuple h1 h2
theorem tyx_l {K : PySem.W.Frag} {H : Hp} {a : Addr} {xs : List V} (h : SqL K H a xs) : TyX K H (.ref a) (.type "list") := by
  rcases h with (h | ⟨o, h⟩) | ⟨o, its, n, h1, h2, _⟩
  · exact .base (.lst h)
  · exact .base (.frz h)
  · exact .kList h1 h2
/-- len(range(i, j)) -/
theorem call_lenRng {X : Cx} : CallR X (.builtin "len") (fun xs H Q => ∃ (p : Addr) (i j : Int), xs = [.ref p] ∧ H p = some (.rng i j) ∧ j - i < 2 ^ 62 ∧ Q (.int ((j - i).toNat : Nat)) H) := by
  intro pins s σ H xs us Q I r h
  obtain ⟨p, i, j, rfl, hp, hl, q⟩ := h
  obtain ⟨u1, rfl, r1⟩ := vals1 r
  cases (show u1 = Value.ref p from r1)
  have hx : ObjOk X.prog X.w H s.heap p (.rng i j) := I.hok p _ hp
  obtain ⟨t, u, v, e⟩ := hx
  exact call_len_range e (PyProof.Rows.rangeSize_nat i j) (by omega) ⟨.int _, H, I.tok _, ⟨_, rfl⟩, q⟩
theorem bnm_range : bootBuiltins "range" = some (.type "range") := by decide +kernel
theorem bnm_list : bootBuiltins "list" = some (.type "list") := by decide +kernel
theorem bnm_tuple : bootBuiltins "tuple" = some (.type "tuple") := by decide +kernel
theorem bnm_bool : bootBuiltins "bool" = some (.type "bool") := by decide +kernel
theorem bnm_int : bootBuiltins "int" = some (.type "int") := by decide +kernel
theorem fm_map {α β : Type} (f : α → β) : ∀ l : List α, l.filterMap (fun a => some (f a)) = l.map f
  | [] => rfl
  | a :: l => by rw [List.filterMap_cons, fm_map f l]; rfl
end Lw
namespace Lw
open PySem L2 Evl
/-! ### what the top leaves -/
theorem fn_mk {K : PySem.W.Frag} {mg : Str → Option Value} {x : Str} {st : Stmt} {f : Addr} {h : Heap} {oc : Value} {od an : Option Addr} {osl : Array (Option Value)} {kV doc pm cdv ct : Value} (X : K.In h) (G : h.Ns mainGlobals mg) (a : PySem.W.nsIn K mainGlobals x = some (some (.ref f)))
    (l : K.lookup f = some ⟨oc, od, .func (PySem.W.fnOf x x (defArgs st) (defBody st) (defScope st) .none kV doc pm an cdv ct), osl⟩) (c : PySem.W.codeIn K cdv x = true) (k : PySem.W.keepIn K (.ref f) = true) : Fn K mg x st := ⟨f, _, fun_mk l c k, PySem.W.mg_of X G a⟩
def FnK (K : PySem.W.Frag) (x : Str) (st : Stmt) : Prop := ∃ (f : Addr) (oc : Value) (od an : Option Addr) (osl : Array (Option Value)) (kV doc pm cdv ct : Value), PySem.W.nsIn K mainGlobals x = some (some (.ref f)) ∧
  K.lookup f = some ⟨oc, od, .func (PySem.W.fnOf x x (defArgs st) (defBody st) (defScope st) .none kV doc pm an cdv ct), osl⟩ ∧ PySem.W.codeIn K cdv x = true ∧ PySem.W.keepIn K (.ref f) = true
theorem fnK_mk {K : PySem.W.Frag} {x : Str} {st : Stmt} {f : Addr} {oc : Value} {od an : Option Addr} {osl : Array (Option Value)} {kV doc pm cdv ct : Value} (a : PySem.W.nsIn K mainGlobals x = some (some (.ref f)))
    (l : K.lookup f = some ⟨oc, od, .func (PySem.W.fnOf x x (defArgs st) (defBody st) (defScope st) .none kV doc pm an cdv ct), osl⟩) (c : PySem.W.codeIn K cdv x = true) (k : PySem.W.keepIn K (.ref f) = true) : FnK K x st := ⟨f, oc, od, an, osl, kV, doc, pm, cdv, ct, a, l, c, k⟩
theorem FnK.fn {K : PySem.W.Frag} {mg : Str → Option Value} {h : Heap} {x : Str} {st : Stmt} (F : FnK K x st) (X : K.In h) (G : h.Ns mainGlobals mg) : Fn K mg x st := by
  obtain ⟨f, oc, od, an, osl, kV, doc, pm, cdv, ct, a, l, c, k⟩ := F
  exact fn_mk X G a l c k
/-! ### error classes as the top leaves them -/
/-- what except says of an error's class and the clause's -/
theorem exm_by {K : PySem.W.Frag} {S T : Addr} {b : Bool} (h1 : PySem.W.subIn K (.ref T) (.type "BaseException") = some true) (h2 : PySem.W.isClsIn K T = true) (h3 : PySem.W.typeIn K (.ref T) = some (.type "type")) (h4 : PySem.W.subIn K (.ref S) (.ref T) = some b) : PySem.W.exmOne K (.ref S) (.ref T) = some b := by
  unfold PySem.W.isClsIn at h2
  unfold PySem.W.exmOne PySem.W.kitCls
  simp only [h1, h2, h3, h4, beq_self_eq_true, Bool.and_self, if_true]
/-- the class x stands at C; its __init__ is the def st -/
structure ErrK (K : PySem.W.Frag) (x : Str) (st : Stmt) (C : Addr) : Prop where
  gC : PySem.W.nsIn K mainGlobals x = some (some (.ref C))
  ox : OexC K C
  xf : XfC K C
  nv : PySem.W.findIn K (.ref C) "value" = some none
  te : PySem.W.exmOne K (.ref C) (.ref C) = some true
  ini : ∃ fI fd, Fun K "__init__" "WindowError.__init__" st fI fd ∧ PySem.W.findIn K (.ref C) "__init__" = some (some (.ref fI)) ∧ PySem.W.typeIn K (.ref fI) = some (.type "function")
theorem errK_mk {K : PySem.W.Frag} {x : Str} {st : Stmt} {C f : Addr} {nm q : Str} {N : Addr} {bs : List Value} {rs : List Value} {sn : List Str} {sub : List Value} {ab : Bool} {col : Option Bool} {dd : Option Addr} {m0 m1 m2 m3 m5 : Option Value}
    {oc : Value} {od an : Option Addr} {osl : Array (Option Value)} {kV doc pm cdv ct : Value} (gC : PySem.W.nsIn K mainGlobals x = some (some (.ref C)))
    (cl : K.lookup C = some (excClassObj nm q C N bs rs true sn sub ab col dd m0 m1 m2 m3 m5 "ValueError.__new__")) (rv : PySem.HandSPX.refsVE rs = true)
    (sa : PySem.W.findIn K (.ref C) "__setattr__" = some (some (.builtin "object.__setattr__"))) (ex : PySem.W.subIn K (.ref C) (.type "BaseException") = some true) (ty : PySem.W.typeIn K (.ref C) = some (.type "type")) (kC : PySem.W.keepIn K (.ref C) = true)
    (ga : PySem.W.findIn K (.ref C) "__getattribute__" = some (some (.builtin "BaseException.__getattribute__"))) (gg : PySem.W.findIn K (.ref C) "__getattr__" = some none) (hd : PySem.W.hasDictIn K C = true) (nv : PySem.W.findIn K (.ref C) "value" = some none)
    (ic : PySem.W.isClsIn K C = true) (ss : PySem.W.subIn K (.ref C) (.ref C) = some true) (ii : PySem.W.findIn K (.ref C) "__init__" = some (some (.ref f))) (it : PySem.W.typeIn K (.ref f) = some (.type "function"))
    (l : K.lookup f = some ⟨oc, od, .func (PySem.W.fnOf "__init__" "WindowError.__init__" (defArgs st) (defBody st) (defScope st) .none kV doc pm an cdv ct), osl⟩) (c : PySem.W.codeIn K cdv "WindowError.__init__" = true) (k : PySem.W.keepIn K (.ref f) = true) : ErrK K x st C := by
  exact ⟨gC, ⟨⟨nm, q, N, bs, rs, sn, sub, ab, col, dd, m0, m1, m2, m3, m5, cl, rv⟩, sa, ex, ty, kC⟩, ⟨ga, gg, ex, hd⟩, nv, exm_by ex ic ty ss, f, _, fun_mk l c k, ii, it⟩
structure ErrM (K : PySem.W.Frag) (mg : Str → Option Value) (x : Str) (st : Stmt) (C : Addr) : Prop where
  gC : mg x = some (.ref C)
  k : ErrK K x st C
theorem ErrK.at_ {K : PySem.W.Frag} {mg : Str → Option Value} {h : Heap} {x : Str} {st : Stmt} {C : Addr} (E : ErrK K x st C) (X : K.In h) (G : h.Ns mainGlobals mg) : ErrM K mg x st C := ⟨PySem.W.mg_of X G E.gC, E⟩
theorem ErrM.ex {P : Program} {w : World} {K : PySem.W.Frag} {mg : Str → Option Value} {base : Heap} {x : Str} {st : Stmt} {C : Addr} (E : ErrM K mg x st C) (ok : ∀ f fd, Fun K "__init__" "WindowError.__init__" st f fd → FnOk P w K mg base CX0 1 f fd ["self", "value"] (sp_wi K))
    (hb : ∀ (kV doc pm : Value) (an : Option Addr) (cdv ct : Value) (us : List Value), us.length = (["self", "value"] : List Str).length → bindArgs (PySem.W.fnOf "__init__" "WindowError.__init__" (defArgs st) (defBody st) (defScope st) .none kV doc pm an cdv ct) ⟨us, []⟩ = pure ((["self", "value"] : List Str).zip us)) : ExC P w K mg base x C := by
  obtain ⟨fI, fd, F, i, t⟩ := E.k.ini
  exact ⟨E.gC, E.k.ox, E.k.xf, E.k.nv, E.k.te, fI, fd, ok _ _ F, i, t, F.binds hb⟩
end Lw
namespace Lw
open PySem PySem.Spec PyProof.Rows L2 Evl
section
variable {X : Cx} {σ : L2.St} {H : Hp} {Q : VK} {D : Ends} {a b e o i c : Expr} {p p' pos pos2 tpos : Pos}
/-- xs[i] by values -/
theorem get_list : PGet X (rIxL X.K) := by
  intro pins s σ H x y v u Q I rx ry h
  obtain ⟨p, xs, i, z, rfl, rfl, hq, he, q⟩ := h
  cases rx
  obtain ⟨t, rfl⟩ := ry
  obtain ⟨its, r, pl, hz⟩ := I.list hq
  obtain ⟨j, h1, h2, h3, h4, h5⟩ := atI_get he
  obtain ⟨w, ew, rw'⟩ := r.get h2
  have hl := r.length
  have hn := line63
  have fin : EP X pins σ Q w s := ⟨z, H, I, rw', q⟩
  by_cases h0 : 0 ≤ i
  · have hj : i.toNat = j := by
      rw [seqIndex_of h0 h5] at h1
      exact Option.some.inj h1
    exact wpAny_getItem_list pl.isList h0 (by omega) (by rw [hj]; simpa using ew) fin
  · have hj : (i + (its.toArray.size : Int)).toNat = j := by
      rw [seqIndex_neg (by omega) h4] at h1
      rw [List.size_toArray, ← hl]
      exact Option.some.inj h1
    exact wpAny_getItem_list_neg pl.isList (by omega) (by rw [List.size_toArray] <;> omega) (by omega) (by rw [hj]; simpa using ew) fin
/-- xs[i] += e, ints -/
theorem s_augItem (h : tAugS (Lw.WE X o) (Lw.WE X i) (Lw.WE X e) (rIxL X.K) (ipI fun i j => i + j) rSetL D σ H)
    (ha : ∀ ov iv new, augStore i ov iv new = (do holding [new, ov, iv] (setItem ov iv new); release [new, ov, iv] []; pure .next) := by intros; rfl) : WS X (.AugAssign (.Subscript o i tpos) .Add e pos) D σ H :=
  ⟨_, ps_augS Lw.WE.pe Lw.WE.pe get_list Lw.WE.pe ip_add set_list ha, h⟩
theorem WT.mono {QT QT' : Bool → Hp → Prop} (h : WT X c σ H QT) (hq : ∀ b H, QT b H → QT' b H) : WT X c σ H QT' :=
  ⟨fun σ H Q' => ∃ Q, WT X c σ H Q ∧ ∀ b H, Q b H → Q' b H, ⟨fun pins s σ H Q' I h' => by
    obtain ⟨Q, h1, h2⟩ := h'
    exact thn (WT.pt.run pins s σ H Q I h1) fun d s1 ⟨H1, I1, q⟩ => ⟨H1, I1, h2 _ _ q⟩⟩, QT, h, hq⟩
/-- while, by an invariant and a measure -/
theorem s_while {body : List Stmt} (Pv : L2.St → Hp → Prop) (μ : L2.St → Hp → Nat) (h0 : Pv σ H)
    (hs : ∀ σ H, Pv σ H → WT X c σ H fun b H1 => if b = true then WSs X body { D with nx := fun σ' H' => Pv σ' H' ∧ μ σ' H' < μ σ H, ct := fun σ' H' => Pv σ' H' ∧ μ σ' H' < μ σ H, bk := D.nx } σ H1 else D.nx σ H1)
    (hp : PassesOwn (model X.prog X.w) X.A X.env X.xe := by exact PassesOwn.never) : WS X (.While c body [] pos) D σ H :=
  ⟨_, ps_while hp WT.pt WSs.pss, while_by Pv μ h0 hs fun σ H Q Q' hq h => WT.mono h hq⟩
end
/-! ### slices of ints -/
theorem cut_to {ns : List Int} {k : Nat} (h : k ≤ ns.length) : cutV (ns.map V.int) none (some (k : Int)) = (ns.take k).map V.int := by
  unfold cutV
  rw [HT.sIx_none, HT.sIx_nat, List.length_map, Nat.min_eq_left h, List.drop_zero, Nat.sub_zero, List.map_take]
theorem cut_from {ns : List Int} {k : Nat} (h : k ≤ ns.length) : cutV (ns.map V.int) (some (k : Int)) none = (ns.drop k).map V.int := by
  unfold cutV
  rw [HT.sIx_none, HT.sIx_nat, List.length_map, Nat.min_eq_left h, ← List.map_drop, ← List.map_take, List.take_of_length_le (by rw [List.length_drop]; exact Nat.le_refl _)]
theorem cut_mid {ns : List Int} {i j : Nat} (h : i ≤ j) (h2 : j ≤ ns.length) : cutV (ns.map V.int) (some (i : Int)) (some (j : Int)) = ((ns.drop i).take (j - i)).map V.int := by
  unfold cutV
  rw [HT.sIx_nat, HT.sIx_nat, List.length_map, Nat.min_eq_left h2, Nat.min_eq_left (Nat.le_trans h h2), List.map_take, List.map_drop]
/-- xs[:k], k perhaps beyond -/
theorem cut_upto {ns : List Int} {k : Nat} : cutV (ns.map V.int) none (some (k : Int)) = (ns.take k).map V.int := by
  unfold cutV
  rw [HT.sIx_none, HT.sIx_nat, List.length_map, List.drop_zero, Nat.sub_zero, ← List.map_take]
  congr 1
  by_cases h : k ≤ ns.length
  · rw [Nat.min_eq_left h]
  · rw [Nat.min_eq_right (by omega), List.take_of_length_le (Nat.le_refl _), List.take_of_length_le (by omega)]
theorem emptyV (ns : List Int) : (ns.map V.int).isEmpty = ns.isEmpty := by cases ns <;> rfl
theorem at_map {ns : List Int} {i : Nat} {n : Int} (h : ns[i]? = some n) : (ns.map V.int)[i]? = some (.int n) := by rw [List.getElem?_map, h]; rfl
end Lw
/-! Turns on a single room, and their short forms: the mathematics. -/
namespace Tn
def cl (r x : Int) : Int := max 0 (min r x)
def led (r : Int) : List Int → Int → Int
  | [], x => x
  | t :: ts, x => led r ts (cl r (x + t))
theorem led_app (r : Int) : ∀ (a b : List Int) (x : Int), led r (a ++ b) x = led r b (led r a x)
  | [], _, _ => rfl
  | _ :: a, b, x => led_app r a b _
theorem cl_in {r x : Int} (h : 0 ≤ r) : 0 ≤ cl r x ∧ cl r x ≤ r := by unfold cl; omega
theorem led_in {r : Int} (h : 0 ≤ r) : ∀ (a : List Int) {x : Int}, 0 ≤ x → x ≤ r → 0 ≤ led r a x ∧ led r a x ≤ r
  | [], _, h1, h2 => ⟨h1, h2⟩
  | _ :: a, _, _, _ => led_in h a (cl_in h).1 (cl_in h).2
/-! ### signs -/
theorem pos_of_mul {a b : Int} (h : a * b > 0) : (0 < a ∧ 0 < b) ∨ (a < 0 ∧ b < 0) := by
  rcases Int.lt_trichotomy a 0 with ha | ha | ha
  · rcases Int.lt_trichotomy b 0 with hb | hb | hb
    · exact .inr ⟨ha, hb⟩
    · rw [hb, Int.mul_zero] at h; omega
    · have := Int.mul_neg_of_neg_of_pos ha hb; omega
  · rw [ha, Int.zero_mul] at h; omega
  · rcases Int.lt_trichotomy b 0 with hb | hb | hb
    · have := Int.mul_neg_of_pos_of_neg ha hb; omega
    · rw [hb, Int.mul_zero] at h; omega
    · exact .inl ⟨ha, hb⟩
theorem not_mul {a b : Int} (h : ¬ a * b > 0) (ha : a ≠ 0) (hb : b ≠ 0) : (0 < a ↔ b < 0) := by
  rcases Int.lt_trichotomy a 0 with h1 | h1 | h1
  · rcases Int.lt_trichotomy b 0 with h2 | h2 | h2
    · have := Int.mul_pos_of_neg_of_neg h1 h2; omega
    · omega
    · omega
  · omega
  · rcases Int.lt_trichotomy b 0 with h2 | h2 | h2
    · omega
    · omega
    · have := Int.mul_pos h1 h2; omega
/-- not zero, the signs in turn -/
def Alt : List Int → Prop
  | [] => True
  | [a] => a ≠ 0
  | a :: b :: l => a ≠ 0 ∧ (0 < a ↔ b < 0) ∧ Alt (b :: l)
theorem Alt.hd {a : Int} : ∀ {l : List Int}, Alt (a :: l) → a ≠ 0
  | [], h => h
  | _ :: _, h => h.1
theorem Alt.tl {a : Int} : ∀ {l : List Int}, Alt (a :: l) → Alt l
  | [], _ => True.intro
  | _ :: _, h => h.2.2
theorem alt_cons {a b : Int} {l : List Int} (h1 : a ≠ 0) (h2 : 0 < a ↔ b < 0) (h3 : Alt (b :: l)) : Alt (a :: b :: l) := ⟨h1, h2, h3⟩
theorem alt_snoc : ∀ {l : List Int} {x t : Int}, Alt (l ++ [x]) → t ≠ 0 → (0 < x ↔ t < 0) → Alt (l ++ [x] ++ [t])
  | [], x, t, h, h1, h2 => ⟨h, h2, h1⟩
  | [a], x, t, h, h1, h2 => ⟨h.1, h.2.1, ⟨h.2.2, h2, h1⟩⟩
  | a :: b :: l, x, t, h, h1, h2 => ⟨h.1, h.2.1, alt_snoc (l := b :: l) h.2.2 h1 h2⟩
theorem alt_last : ∀ {l : List Int} {x y : Int}, Alt (l ++ [x]) → y ≠ 0 → (0 < x ↔ 0 < y) → Alt (l ++ [y])
  | [], x, y, h, h1, h2 => h1
  | [a], x, y, h, h1, h2 => ⟨h.1, by have h3 : x ≠ 0 := h.2.2; have := h.2.1; omega, h1⟩
  | a :: b :: l, x, y, h, h1, h2 => ⟨h.1, h.2.1, alt_last (l := b :: l) h.2.2 h1 h2⟩
theorem alt_lastne : ∀ {l : List Int} {x : Int}, Alt (l ++ [x]) → x ≠ 0
  | [], _, h => h
  | [_], _, h => h.2.2
  | _ :: b :: l, _, h => alt_lastne (l := b :: l) h.2.2
/-! ### neighbours with one sign summed up -/
def stepF (acc : List Int) (t : Int) : List Int := match acc.getLast? with
  | none => if t = 0 then [] else [t]
  | some x => if x * t > 0 then acc.dropLast ++ [x + t] else if t = 0 then acc else acc ++ [t]
def summed (l : List Int) : List Int := l.foldl stepF []
theorem stepF_nil (t : Int) : stepF [] t = if t = 0 then [] else [t] := rfl
theorem stepF_snoc (l : List Int) (x t : Int) : stepF (l ++ [x]) t = if x * t > 0 then l ++ [x + t] else if t = 0 then l ++ [x] else l ++ [x] ++ [t] := by
  unfold stepF
  rw [List.getLast?_append]
  simp
theorem snoc_of (l : List Int) : l = [] ∨ ∃ p x, l = p ++ [x] := by
  rcases List.eq_nil_or_concat l with h | ⟨p, x, h⟩
  · exact .inl h
  · exact .inr ⟨p, x, by rw [h, List.concat_eq_append]⟩
theorem step_alt {acc : List Int} {t : Int} (h : Alt acc) : Alt (stepF acc t) := by
  rcases snoc_of acc with rfl | ⟨l, x, rfl⟩
  · rw [stepF_nil]
    split
    · exact True.intro
    · rename_i ht; exact ht
  · rw [stepF_snoc]
    split
    · rename_i hm
      have := pos_of_mul hm
      exact alt_last h (by omega) (by omega)
    · rename_i hm
      split
      · exact h
      · rename_i ht
        exact alt_snoc h ht (not_mul hm (alt_lastne h) ht)
theorem step_led {r : Int} (hr : 0 ≤ r) (acc : List Int) (t : Int) {x : Int} (h0 : 0 ≤ x) (h1 : x ≤ r) : led r (stepF acc t) x = led r (acc ++ [t]) x := by
  rcases snoc_of acc with rfl | ⟨l, y, rfl⟩
  · rw [stepF_nil]
    split
    · rename_i ht
      subst ht
      show x = cl r (x + 0)
      unfold cl
      omega
    · rfl
  · rw [stepF_snoc]
    obtain ⟨a, b⟩ := led_in hr l h0 h1
    split
    · rename_i hm
      have := pos_of_mul hm
      rw [led_app, led_app, led_app]
      show cl r (led r l x + (y + t)) = cl r (cl r (led r l x + y) + t)
      unfold cl
      omega
    · split
      · rename_i ht
        subst ht
        obtain ⟨c, d⟩ := led_in hr (l ++ [y]) h0 h1
        rw [led_app r (l ++ [y]) [0]]
        show _ = cl r (led r (l ++ [y]) x + 0)
        unfold cl
        omega
      · rfl
theorem step_len (acc : List Int) (t : Int) : (stepF acc t).length ≤ acc.length + 1 := by
  rcases snoc_of acc with rfl | ⟨l, y, rfl⟩
  · rw [stepF_nil]; split <;> simp
  · rw [stepF_snoc]; split
    · simp
    · split <;> simp
theorem summed_alt (l : List Int) : Alt (summed l) := by
  have key : ∀ (l acc : List Int), Alt acc → Alt (l.foldl stepF acc) := by
    intro l
    induction l with
    | nil => exact fun acc h => h
    | cons t l ih => exact fun acc h => ih _ (step_alt h)
  exact key l [] True.intro
theorem summed_led {r : Int} (hr : 0 ≤ r) (l : List Int) {x : Int} (h0 : 0 ≤ x) (h1 : x ≤ r) : led r (summed l) x = led r l x := by
  have key : ∀ (l acc : List Int), led r (l.foldl stepF acc) x = led r (acc ++ l) x := by
    intro l
    induction l with
    | nil => intro acc; rw [List.append_nil]; rfl
    | cons t l ih =>
      intro acc
      rw [List.foldl_cons, ih, led_app, step_led hr acc t h0 h1, ← led_app, List.append_assoc]
      rfl
  exact key l []
theorem summed_len (l : List Int) : (summed l).length ≤ l.length := by
  have key : ∀ (l acc : List Int), (l.foldl stepF acc).length ≤ acc.length + l.length := by
    intro l
    induction l with
    | nil => exact fun acc => Nat.le_refl _
    | cons t l ih =>
      intro acc
      have := ih (stepF acc t)
      have := step_len acc t
      rw [List.foldl_cons, List.length_cons]
      omega
  have := key l []
  rw [List.length_nil, Nat.zero_add] at this
  exact this
theorem alt_app : ∀ {a b : List Int}, Alt (a ++ b) → Alt a
  | [], _, _ => True.intro
  | [x], b, h => h.hd
  | x :: y :: a, b, h => ⟨h.1, h.2.1, alt_app (a := y :: a) h.2.2⟩
theorem alt_mid : ∀ {a : List Int} {x y : Int} {b : List Int}, Alt (a ++ [x] ++ y :: b) → x ≠ 0 ∧ y ≠ 0 ∧ (0 < x ↔ y < 0)
  | [], x, y, b, h => ⟨h.1, (Alt.tl h).hd, h.2.1⟩
  | [_], x, y, b, h => alt_mid (a := []) (x := x) (y := y) (b := b) h.2.2
  | _ :: c :: a, x, y, b, h => alt_mid (a := c :: a) (x := x) (y := y) (b := b) h.2.2
theorem mul_opp {x y : Int} (h1 : x ≠ 0) (h2 : y ≠ 0) (h : 0 < x ↔ y < 0) : ¬ x * y > 0 := fun z => by
  have := pos_of_mul z
  omega
theorem summed_of_alt {l : List Int} (h : Alt l) : summed l = l := by
  have key : ∀ (l acc : List Int), Alt (acc ++ l) → l.foldl stepF acc = acc ++ l := by
    intro l
    induction l with
    | nil => intro acc _; rw [List.append_nil]; rfl
    | cons t l ih =>
      intro acc h
      have e : stepF acc t = acc ++ [t] := by
        rcases snoc_of acc with rfl | ⟨p, y, rfl⟩
        · rw [stepF_nil, if_neg (Alt.hd h)]
          rfl
        · obtain ⟨a, b, c⟩ := alt_mid h
          rw [stepF_snoc, if_neg (mul_opp a b c), if_neg b]
      rw [List.foldl_cons, e, ih _ (by rw [List.append_assoc]; exact h), List.append_assoc]
      rfl
  exact key l [] h
/-! ### turns joined -/
def midJoin : List Int → Option (List Int)
  | a :: b :: c :: l => if b.natAbs ≤ min a.natAbs c.natAbs then some ((a + b + c) :: l) else (midJoin (b :: c :: l)).map (a :: ·)
  | _ => none
def headJoin : List Int → Option (List Int)
  | a :: b :: c :: l => if a.natAbs < b.natAbs ∧ b.natAbs ≤ c.natAbs then some ((a + b) :: c :: l) else none
  | _ => none
theorem headJoin_c (a b c : Int) (l : List Int) : headJoin (a :: b :: c :: l) = if a.natAbs < b.natAbs ∧ b.natAbs ≤ c.natAbs then some ((a + b) :: c :: l) else none := rfl
def shorter (l : List Int) : List Int := match midJoin l with
  | some m => m
  | none => match headJoin l with
    | some m => m
    | none => l
theorem mid_len : ∀ {l m : List Int}, midJoin l = some m → m.length + 2 = l.length
  | [], _, h => by cases h
  | [_], _, h => by cases h
  | [_, _], _, h => by cases h
  | a :: b :: c :: l, m, h => by
    unfold midJoin at h
    split at h
    · cases h; rfl
    · cases e : midJoin (b :: c :: l) with
      | none => rw [e] at h; cases h
      | some m' =>
        rw [e] at h
        cases h
        have := mid_len e
        simp only [List.length_cons] at this ⊢
        omega
theorem head_len : ∀ {l m : List Int}, headJoin l = some m → m.length + 1 = l.length
  | [], _, h => by cases h
  | [_], _, h => by cases h
  | [_, _], _, h => by cases h
  | a :: b :: c :: l, m, h => by
    rw [headJoin_c] at h
    split at h
    · cases h; rfl
    · cases h
theorem shorter_cases (l : List Int) : (∃ m, midJoin l = some m ∧ shorter l = m) ∨ (midJoin l = none ∧ ∃ m, headJoin l = some m ∧ shorter l = m) ∨ (midJoin l = none ∧ headJoin l = none ∧ shorter l = l) := by
  unfold shorter
  cases e : midJoin l with
  | some m => exact .inl ⟨m, rfl, rfl⟩
  | none =>
    cases e2 : headJoin l with
    | some m => exact .inr (.inl ⟨rfl, m, rfl, rfl⟩)
    | none => exact .inr (.inr ⟨rfl, rfl, rfl⟩)
theorem shorter_or (l : List Int) : (shorter l).length < l.length ∨ shorter l = l := by
  rcases shorter_cases l with ⟨m, h, e⟩ | ⟨_, m, h, e⟩ | ⟨_, _, e⟩
  · rw [e]; left; have := mid_len h; omega
  · rw [e]; left; have := head_len h; omega
  · exact .inr e
def shortL (l : List Int) : List Int := if h : (shorter l).length < l.length then shortL (shorter l) else shorter l
termination_by l.length
def short (l : List Int) : List Int := shortL (summed l)
theorem shortL_lt {l : List Int} (h : (shorter l).length < l.length) : shortL l = shortL (shorter l) := by rw [shortL, dif_pos h]
theorem shortL_ge {l : List Int} (h : ¬ (shorter l).length < l.length) : shortL l = l := by
  rw [shortL, dif_neg h]
  exact (shorter_or l).resolve_left h
/-- what holds of all steps holds of the end -/
theorem shortL_ind (P : List Int → Prop) (hP : ∀ l, P l → P (shorter l)) : ∀ (n : Nat) (l : List Int), l.length ≤ n → P l → P (shortL l) ∧ shorter (shortL l) = shortL l ∧ (shortL l).length ≤ l.length := by
  intro n
  induction n with
  | zero =>
    intro l hl p
    have hn : ¬ (shorter l).length < l.length := by omega
    rw [shortL_ge hn]
    exact ⟨p, (shorter_or l).resolve_left hn, Nat.le_refl _⟩
  | succ n ih =>
    intro l hl p
    by_cases h : (shorter l).length < l.length
    · rw [shortL_lt h]
      obtain ⟨a, b, c⟩ := ih (shorter l) (by omega) (hP l p)
      exact ⟨a, b, by omega⟩
    · rw [shortL_ge h]
      exact ⟨p, (shorter_or l).resolve_left h, Nat.le_refl _⟩
theorem mid_alt : ∀ {l m : List Int}, Alt l → midJoin l = some m → Alt m ∧ ∀ a, l.head? = some a → ∃ b, m.head? = some b ∧ (0 < b ↔ 0 < a) ∧ b ≠ 0
  | [], _, _, h => by cases h
  | [_], _, _, h => by cases h
  | [_, _], _, _, h => by cases h
  | a :: b :: c :: l, m, k, h => by
    have ha : a ≠ 0 := k.1
    have hb : b ≠ 0 := k.2.2.1
    have hab := k.2.1
    have hbc := k.2.2.2.1
    have hc : c ≠ 0 := k.2.2.2.2.hd
    unfold midJoin at h
    split at h
    · rename_i hle
      cases h
      have sg : (0 < a + b + c ↔ 0 < a) ∧ a + b + c ≠ 0 := by omega
      refine ⟨?_, fun z hz => ⟨_, rfl, ?_⟩⟩
      · cases l with
        | nil => exact sg.2
        | cons d l =>
          have hcd := k.2.2.2.2.2.1
          exact ⟨sg.2, by omega, k.2.2.2.2.2.2⟩
      · cases hz; exact sg
    · cases e : midJoin (b :: c :: l) with
      | none => rw [e] at h; cases h
      | some m' =>
        rw [e] at h
        cases h
        obtain ⟨h1, h2⟩ := mid_alt k.2.2 e
        obtain ⟨b', hb1, hb2, hb3⟩ := h2 b rfl
        refine ⟨?_, fun z hz => ⟨a, rfl, by cases hz; exact ⟨Iff.rfl, ha⟩⟩⟩
        cases m' with
        | nil => cases hb1
        | cons y m' =>
          cases hb1
          exact ⟨ha, by omega, h1⟩
theorem head_alt : ∀ {l m : List Int}, Alt l → headJoin l = some m → Alt m
  | [], _, _, h => by cases h
  | [_], _, _, h => by cases h
  | [_, _], _, _, h => by cases h
  | a :: b :: c :: l, m, k, h => by
    have ha : a ≠ 0 := k.1
    have hb : b ≠ 0 := k.2.2.1
    have hab := k.2.1
    have hbc := k.2.2.2.1
    rw [headJoin_c] at h
    split at h
    · rename_i hle
      cases h
      exact ⟨by omega, by omega, k.2.2.2.2⟩
    · cases h
theorem shorter_alt {l : List Int} (k : Alt l) : Alt (shorter l) := by
  rcases shorter_cases l with ⟨m, h, e⟩ | ⟨_, m, h, e⟩ | ⟨_, _, e⟩
  · rw [e]; exact (mid_alt k h).1
  · rw [e]; exact head_alt k h
  · rw [e]; exact k
theorem mid_led {r : Int} (hr : 0 ≤ r) : ∀ {l m : List Int} {x : Int}, Alt l → midJoin l = some m → 0 ≤ x → x ≤ r → led r m x = led r l x
  | [], _, _, _, h, _, _ => by cases h
  | [_], _, _, _, h, _, _ => by cases h
  | [_, _], _, _, _, h, _, _ => by cases h
  | a :: b :: c :: l, m, x, k, h, h0, h1 => by
    have ha : a ≠ 0 := k.1
    have hb : b ≠ 0 := k.2.2.1
    have hab := k.2.1
    have hbc := k.2.2.2.1
    have hc : c ≠ 0 := k.2.2.2.2.hd
    unfold midJoin at h
    split at h
    · rename_i hle
      cases h
      show led r l (cl r (x + (a + b + c))) = led r l (cl r (cl r (cl r (x + a) + b) + c))
      congr 1
      unfold cl
      omega
    · cases e : midJoin (b :: c :: l) with
      | none => rw [e] at h; cases h
      | some m' =>
        rw [e] at h
        cases h
        show led r m' (cl r (x + a)) = led r (b :: c :: l) (cl r (x + a))
        exact mid_led hr k.2.2 e (cl_in hr).1 (cl_in hr).2
theorem head_led {r : Int} (hr : 0 ≤ r) : ∀ {l m : List Int} {x : Int}, Alt l → headJoin l = some m → 0 ≤ x → x ≤ r → led r m x = led r l x
  | [], _, _, _, h, _, _ => by cases h
  | [_], _, _, _, h, _, _ => by cases h
  | [_, _], _, _, _, h, _, _ => by cases h
  | a :: b :: c :: l, m, x, k, h, h0, h1 => by
    have ha : a ≠ 0 := k.1
    have hb : b ≠ 0 := k.2.2.1
    have hab := k.2.1
    have hbc := k.2.2.2.1
    have hc : c ≠ 0 := k.2.2.2.2.hd
    rw [headJoin_c] at h
    split at h
    · rename_i hle
      cases h
      show led r l (cl r (cl r (x + (a + b)) + c)) = led r l (cl r (cl r (cl r (x + a) + b) + c))
      congr 1
      unfold cl
      omega
    · cases h
theorem shorter_led {r : Int} (hr : 0 ≤ r) {l : List Int} {x : Int} (k : Alt l) (h0 : 0 ≤ x) (h1 : x ≤ r) : led r (shorter l) x = led r l x := by
  rcases shorter_cases l with ⟨m, h, e⟩ | ⟨_, m, h, e⟩ | ⟨_, _, e⟩
  · rw [e]; exact mid_led hr k h h0 h1
  · rw [e]; exact head_led hr k h h0 h1
  · rw [e]
theorem short_spec (l : List Int) : Alt (short l) ∧ shorter (short l) = short l ∧ (short l).length ≤ l.length ∧ ∀ r x : Int, 0 ≤ x → x ≤ r → led r (short l) x = led r l x := by
  obtain ⟨⟨a, b⟩, c, d⟩ := shortL_ind (fun m => Alt m ∧ ∀ r x : Int, 0 ≤ x → x ≤ r → led r m x = led r (summed l) x) (fun m ⟨h1, h2⟩ => ⟨shorter_alt h1, fun r x h0 hx => by rw [shorter_led (Int.le_trans h0 hx) h1 h0 hx]; exact h2 r x h0 hx⟩)
    (summed l).length (summed l) (Nat.le_refl _) ⟨summed_alt l, fun _ _ _ _ => rfl⟩
  exact ⟨a, c, Nat.le_trans d (summed_len l), fun r x h0 hx => (b r x h0 hx).trans (summed_led (Int.le_trans h0 hx) l h0 hx)⟩
theorem short_idem (l : List Int) : short (short l) = short l := by
  obtain ⟨a, b, _, _⟩ := short_spec l
  have e : short (short l) = shortL (summed (short l)) := rfl
  rw [e, summed_of_alt a]
  exact shortL_ge (by rw [b]; exact Nat.lt_irrefl _)
theorem short_zero (l : List Int) : short (0 :: l) = short l := rfl
/-! ### great turns -/
theorem natAbs_sc {W a b : Int} (h : 0 < W) : (W * a).natAbs ≤ (W * b).natAbs ↔ a.natAbs ≤ b.natAbs := by
  rw [Int.natAbs_mul, Int.natAbs_mul]
  exact Nat.mul_le_mul_left_iff (by omega)
theorem step_sc {W : Int} (h : 0 < W) (acc : List Int) (t : Int) : stepF (acc.map (W * ·)) (W * t) = (stepF acc t).map (W * ·) := by
  have hz : W * t = 0 ↔ t = 0 := by
    constructor
    · intro e
      rcases Int.mul_eq_zero.mp e with e | e
      · omega
      · exact e
    · intro e; rw [e, Int.mul_zero]
  rcases snoc_of acc with rfl | ⟨l, y, rfl⟩
  · rw [List.map_nil, stepF_nil, stepF_nil]
    by_cases ht : t = 0
    · rw [if_pos ht, if_pos (hz.mpr ht)]; rfl
    · rw [if_neg ht, if_neg (fun z => ht (hz.mp z))]; rfl
  · rw [List.map_append, List.map_singleton, stepF_snoc, stepF_snoc]
    have hm : W * y * (W * t) > 0 ↔ y * t > 0 := by
      have e : W * y * (W * t) = (W * W) * (y * t) := by
        rw [Int.mul_assoc, Int.mul_assoc, ← Int.mul_assoc y W t, Int.mul_comm y W, Int.mul_assoc W y t]
      rw [e]
      have hw : 0 < W * W := Int.mul_pos h h
      constructor
      · intro z
        rcases pos_of_mul z with ⟨_, q⟩ | ⟨q, _⟩
        · exact q
        · omega
      · intro z
        exact Int.mul_pos hw z
    by_cases h1 : y * t > 0
    · rw [if_pos h1, if_pos (hm.mpr h1), List.map_append, List.map_singleton, Int.mul_add]
    · rw [if_neg h1, if_neg (fun z => h1 (hm.mp z))]
      by_cases ht : t = 0
      · rw [if_pos ht, if_pos (hz.mpr ht), List.map_append, List.map_singleton]
      · rw [if_neg ht, if_neg (fun z => ht (hz.mp z)), List.map_append, List.map_append, List.map_singleton, List.map_singleton]
theorem summed_sc {W : Int} (h : 0 < W) (l : List Int) : summed (l.map (W * ·)) = (summed l).map (W * ·) := by
  have key : ∀ (l acc : List Int), (l.map (W * ·)).foldl stepF (acc.map (W * ·)) = (l.foldl stepF acc).map (W * ·) := by
    intro l
    induction l with
    | nil => exact fun acc => rfl
    | cons t l ih =>
      intro acc
      rw [List.map_cons, List.foldl_cons, List.foldl_cons, step_sc h, ih]
  exact key l []
theorem mid_sc {W : Int} (h : 0 < W) : ∀ l : List Int, midJoin (l.map (W * ·)) = (midJoin l).map (List.map (W * ·))
  | [] => rfl
  | [_] => rfl
  | [_, _] => rfl
  | a :: b :: c :: l => by
    have ih := mid_sc h (b :: c :: l)
    simp only [List.map_cons] at ih ⊢
    unfold midJoin
    have e : ((W * b).natAbs ≤ min (W * a).natAbs (W * c).natAbs) ↔ (b.natAbs ≤ min a.natAbs c.natAbs) := by
      rw [Nat.le_min, Nat.le_min, natAbs_sc h, natAbs_sc h]
    by_cases hc : b.natAbs ≤ min a.natAbs c.natAbs
    · rw [if_pos hc, if_pos (e.mpr hc)]
      simp only [Option.map_some, List.map_cons, Int.mul_add]
    · rw [if_neg hc, if_neg (fun z => hc (e.mp z)), ih]
      cases midJoin (b :: c :: l) <;> rfl
theorem head_sc {W : Int} (h : 0 < W) : ∀ l : List Int, headJoin (l.map (W * ·)) = (headJoin l).map (List.map (W * ·))
  | [] => rfl
  | [_] => rfl
  | [_, _] => rfl
  | a :: b :: c :: l => by
    simp only [List.map_cons]
    rw [headJoin_c, headJoin_c]
    have e : ((W * a).natAbs < (W * b).natAbs ∧ (W * b).natAbs ≤ (W * c).natAbs) ↔ (a.natAbs < b.natAbs ∧ b.natAbs ≤ c.natAbs) := by
      have e1 := natAbs_sc (a := b) (b := a) h
      have e2 := natAbs_sc (a := b) (b := c) h
      omega
    by_cases hc : a.natAbs < b.natAbs ∧ b.natAbs ≤ c.natAbs
    · rw [if_pos hc, if_pos (e.mpr hc)]
      simp only [Option.map_some, List.map_cons, Int.mul_add]
    · rw [if_neg hc, if_neg (fun z => hc (e.mp z))]
      rfl
theorem shorter_sc {W : Int} (h : 0 < W) (l : List Int) : shorter (l.map (W * ·)) = (shorter l).map (W * ·) := by
  unfold shorter
  rw [mid_sc h, head_sc h]
  cases midJoin l with
  | some m => rfl
  | none => cases headJoin l <;> rfl
theorem shortL_sc {W : Int} (h : 0 < W) : ∀ (n : Nat) (l : List Int), l.length ≤ n → shortL (l.map (W * ·)) = (shortL l).map (W * ·) := by
  intro n
  induction n with
  | zero =>
    intro l hl
    rw [shortL_ge (l := l) (by omega), shortL_ge (by rw [List.length_map]; omega)]
  | succ n ih =>
    intro l hl
    by_cases hc : (shorter l).length < l.length
    · rw [shortL_lt hc, shortL_lt (by rw [shorter_sc h, List.length_map, List.length_map]; exact hc), shorter_sc h, ih _ (by omega)]
    · rw [shortL_ge hc, shortL_ge (by rw [shorter_sc h, List.length_map, List.length_map]; exact hc)]
theorem short_sc {W : Int} (h : 0 < W) (l : List Int) : short (l.map (W * ·)) = (short l).map (W * ·) := by
  unfold short
  rw [summed_sc h, shortL_sc h _ _ (Nat.le_refl _)]
end Tn
/-! Short forms that do the same to all small rooms are equal. -/
namespace Tn
def hd (l : List Int) : Int := l.headD 0
/-- the signs in turn, each lesser than the one before it -/
def Dec : List Int → Prop
  | [] => True
  | [a] => a ≠ 0
  | a :: b :: l => a ≠ 0 ∧ (0 < a ↔ b < 0) ∧ b.natAbs < a.natAbs ∧ Dec (b :: l)
theorem Dec.hd {a : Int} : ∀ {l : List Int}, Dec (a :: l) → a ≠ 0
  | [], h => h
  | _ :: _, h => h.1
theorem Dec.tl {a : Int} : ∀ {l : List Int}, Dec (a :: l) → Dec l
  | [], _ => True.intro
  | _ :: _, h => h.2.2.2
theorem Dec.lt {a : Int} : ∀ {l : List Int}, Dec (a :: l) → (Tn.hd l).natAbs < a.natAbs ∧ (Tn.hd l = 0 ∨ (0 < a ↔ Tn.hd l < 0))
  | [], h => ⟨by have h' : a ≠ 0 := h; show (0 : Int).natAbs < a.natAbs; omega, .inl rfl⟩
  | _ :: _, h => ⟨h.2.2.1, .inr h.2.1⟩
theorem dec_hd0 {l : List Int} (h : Dec l) (e : (Tn.hd l).natAbs = 0) : l = [] := by
  cases l with
  | nil => rfl
  | cons a l =>
    have := h.hd
    have e' : a.natAbs = 0 := e
    omega
/-- the short forms -/
def NF (l : List Int) : Prop := Alt l ∧ Dec l.tail
theorem dec_of {b c : Int} : ∀ {l : List Int}, Alt (b :: c :: l) → midJoin (b :: c :: l) = none → c.natAbs < b.natAbs → Dec (b :: c :: l)
  | [], k, _, h => ⟨k.1, k.2.1, h, k.2.2⟩
  | d :: l, k, e, h => by
    unfold midJoin at e
    split at e
    · cases e
    · rename_i hn
      have e2 : midJoin (c :: d :: l) = none := by
        cases q : midJoin (c :: d :: l) with
        | none => rfl
        | some m => rw [q] at e; cases e
      exact ⟨k.1, k.2.1, h, dec_of k.2.2 e2 (by omega)⟩
theorem nf_of {l : List Int} (k : Alt l) (h : shorter l = l) : NF l := by
  have hm : midJoin l = none := by
    cases q : midJoin l with
    | none => rfl
    | some m =>
      have := mid_len q
      have e : shorter l = m := by unfold shorter; rw [q]
      rw [← e, h] at this
      omega
  have hh : headJoin l = none := by
    cases q : headJoin l with
    | none => rfl
    | some m =>
      have := head_len q
      have e : shorter l = m := by unfold shorter; rw [hm, q]
      rw [← e, h] at this
      omega
  refine ⟨k, ?_⟩
  match l, k, hm, hh with
  | [], _, _, _ => exact True.intro
  | [a], _, _, _ => exact True.intro
  | [a, b], k, _, _ => exact k.2.2
  | a :: b :: c :: l, k, hm, hh =>
    unfold midJoin at hm
    split at hm
    · cases hm
    · rename_i hn
      rw [headJoin_c] at hh
      have h2 : ¬ (a.natAbs < b.natAbs ∧ b.natAbs ≤ c.natAbs) := fun z => by rw [if_pos z] at hh; cases hh
      have e2 : midJoin (b :: c :: l) = none := by
        cases q : midJoin (b :: c :: l) with
        | none => rfl
        | some m => rw [q] at hm; cases hm
      exact dec_of k.2.2 e2 (by omega)
theorem short_nf (l : List Int) : NF (short l) := by
  obtain ⟨a, b, _, _⟩ := short_spec l
  exact nf_of a b
/-! ### what falling turns do -/
theorem nocl {r : Int} : ∀ {Y : List Int} {y x : Int}, Dec (y :: Y) → 0 ≤ x → x ≤ r → 0 ≤ x + y → x + y ≤ r → led r (y :: Y) x = x + (y :: Y).sum
  | [], y, x, _, _, _, h0, h1 => by
    show cl r (x + y) = x + (y + 0)
    unfold cl
    omega
  | z :: Y, y, x, k, a0, a1, h0, h1 => by
    have e : cl r (x + y) = x + y := by unfold cl; omega
    show led r (z :: Y) (cl r (x + y)) = x + (y + (z :: Y).sum)
    have k1 := k.1
    have k2 := k.2.1
    have k3 := k.2.2.1
    rw [e, nocl k.2.2.2 h0 h1 (by omega) (by omega)]
    omega
theorem top {r z : Int} {Y : List Int} {x : Int} (k : Dec (z :: Y)) (h1 : ((hd Y).natAbs : Int) ≤ r) (h2 : r ≤ z.natAbs) (x0 : 0 ≤ x) (x1 : x ≤ r) : led r (z :: Y) x = (if 0 < z then r else 0) + Y.sum := by
  have hz := k.hd
  have e : cl r (x + z) = if 0 < z then r else 0 := by unfold cl; split <;> omega
  show led r Y (cl r (x + z)) = _
  rw [e]
  cases Y with
  | nil => show _ = _ + (0 : Int); rw [Int.add_zero]; rfl
  | cons y Y =>
    have h1' : (y.natAbs : Int) ≤ r := h1
    have k1 := k.2.1
    split
    · exact nocl k.2.2.2 (by omega) (by omega) (by omega) (by omega)
    · exact nocl k.2.2.2 (by omega) (by omega) (by omega) (by omega)
theorem const {r z : Int} {Y : List Int} {x x' : Int} (h2 : r ≤ z.natAbs) (hz : z ≠ 0) (x0 : 0 ≤ x) (x1 : x ≤ r) (y0 : 0 ≤ x') (y1 : x' ≤ r) : led r (z :: Y) x = led r (z :: Y) x' := by
  show led r Y (cl r (x + z)) = led r Y (cl r (x' + z))
  congr 1
  unfold cl
  omega
theorem dec_eq : ∀ (Z W : List Int), Dec Z → Dec W → (hd Z).natAbs = (hd W).natAbs → (∀ r : Int, 0 ≤ r → r ≤ (hd Z).natAbs → led r Z 0 = led r W 0) → Z = W
  | [], W, _, kW, h, _ => (dec_hd0 kW h.symm).symm
  | z :: Y, [], kZ, _, h, _ => dec_hd0 kZ h
  | z :: Y, w :: V, kZ, kW, h, he => by
    have h' : z.natAbs = w.natAbs := h
    have hz := kZ.hd
    have hw := kW.hd
    obtain ⟨m1, m2⟩ := kZ.lt
    obtain ⟨n1, n2⟩ := kW.lt
    have he' : ∀ r : Int, 0 ≤ r → r ≤ z.natAbs → led r (z :: Y) 0 = led r (w :: V) 0 := he
    -- the first turns
    have f1 := he' z.natAbs (by omega) (Int.le_refl _)
    have f2 := he' ((z.natAbs : Int) - 1) (by omega) (by omega)
    rw [top kZ (by omega) (by omega) (Int.le_refl 0) (by omega), top kW (by omega) (by omega) (Int.le_refl 0) (by omega)] at f1
    rw [top kZ (by omega) (by omega) (Int.le_refl 0) (by omega), top kW (by omega) (by omega) (Int.le_refl 0) (by omega)] at f2
    have sg : 0 < z ↔ 0 < w := by
      by_cases c1 : 0 < z <;> by_cases c2 : 0 < w <;> simp only [c1, c2, if_true, if_false] at f1 f2 <;> omega
    have ezw : z = w := by omega
    subst ezw
    -- the next ones
    have key : (hd Y).natAbs = (hd V).natAbs := by
      rcases Nat.lt_trichotomy (hd Y).natAbs (hd V).natAbs with c | c | c
      · exfalso
        cases V with
        | nil => exact absurd c (by show ¬ _ < (0 : Int).natAbs; omega)
        | cons v V =>
          have c' : (hd Y).natAbs < v.natAbs := c
          have n1' : v.natAbs < z.natAbs := n1
          have hv := kW.2.1
          have kV := kW.2.2.2
          have hv0 := kV.hd
          obtain ⟨p1, p2⟩ := kV.lt
          have g : ∀ r : Int, 0 ≤ r → r ≤ v.natAbs → ((hd V).natAbs : Int) ≤ r → ((hd Y).natAbs : Int) ≤ r → (if 0 < z then r else 0) + Y.sum = (if 0 < v then r else 0) + V.sum := by
            intro r r0 r1 r2 r3
            have e1 := he' r r0 (by omega)
            rw [top kZ r3 (by omega) (Int.le_refl 0) r0] at e1
            rw [e1]
            show led r (v :: V) (cl r (0 + z)) = _
            exact top kV r2 (by omega) (cl_in r0).1 (cl_in r0).2
          have g1 := g v.natAbs (by omega) (Int.le_refl _) (by omega) (by omega)
          have g2 := g ((v.natAbs : Int) - 1) (by omega) (by omega) (by omega) (by omega)
          by_cases c1 : 0 < z
          · have c2 : ¬ 0 < v := by omega
            simp only [c1, c2, if_true, if_false] at g1 g2
            omega
          · have c2 : 0 < v := by omega
            simp only [c1, c2, if_true, if_false] at g1 g2
            omega
      · exact c
      · exfalso
        cases Y with
        | nil => exact absurd c (by show ¬ _ < (0 : Int).natAbs; omega)
        | cons v Y =>
          have c' : (hd V).natAbs < v.natAbs := c
          have n1' : v.natAbs < z.natAbs := m1
          have hv := kZ.2.1
          have kV := kZ.2.2.2
          have hv0 := kV.hd
          obtain ⟨p1, p2⟩ := kV.lt
          have g : ∀ r : Int, 0 ≤ r → r ≤ v.natAbs → ((hd V).natAbs : Int) ≤ r → ((hd Y).natAbs : Int) ≤ r → (if 0 < v then r else 0) + Y.sum = (if 0 < z then r else 0) + V.sum := by
            intro r r0 r1 r2 r3
            have e1 := he' r r0 (by omega)
            rw [top kW r2 (by omega) (Int.le_refl 0) r0] at e1
            rw [← e1]
            show _ = led r (v :: Y) (cl r (0 + z))
            exact (top kV r3 (by omega) (cl_in r0).1 (cl_in r0).2).symm
          have g1 := g v.natAbs (by omega) (Int.le_refl _) (by omega) (by omega)
          have g2 := g ((v.natAbs : Int) - 1) (by omega) (by omega) (by omega) (by omega)
          by_cases c1 : 0 < z
          · have c2 : ¬ 0 < v := by omega
            simp only [c1, c2, if_true, if_false] at g1 g2
            omega
          · have c2 : 0 < v := by omega
            simp only [c1, c2, if_true, if_false] at g1 g2
            omega
    have rest : Y = V := by
      cases Y with
      | nil => exact (dec_hd0 kW.tl (by rw [← key]; rfl)).symm
      | cons y Y =>
        cases V with
        | nil => exact dec_hd0 kZ.tl (by rw [key]; rfl)
        | cons v V =>
          refine dec_eq (y :: Y) (v :: V) kZ.tl kW.tl key fun r r0 r1 => ?_
          have r1' : r ≤ y.natAbs := r1
          have key' : y.natAbs = v.natAbs := key
          have m1' : y.natAbs < z.natAbs := m1
          have e1 := he' r r0 (by omega)
          have a1 : led r (z :: y :: Y) 0 = led r (y :: Y) 0 := const (x := cl r (0 + z)) r1' kZ.tl.hd (cl_in r0).1 (cl_in r0).2 (Int.le_refl 0) r0
          have a2 : led r (z :: v :: V) 0 = led r (v :: V) 0 := const (x := cl r (0 + z)) (by omega) kW.tl.hd (cl_in r0).1 (cl_in r0).2 (Int.le_refl 0) r0
          rw [← a1, ← a2]
          exact e1
    rw [rest]
/-! ### the first turn apart -/
def top2 (l : List Int) : Nat := max (hd l).natAbs (hd l.tail).natAbs
/-- a turn a, that may be 0, and then falling turns -/
structure Core (F : List Int) (a : Int) (Z : List Int) : Prop where
  dec : Dec Z
  top : top2 F = (hd Z).natAbs
  le : a.natAbs ≤ (hd Z).natAbs
  opp : a = 0 ∨ (0 < a ↔ hd Z < 0)
  led : ∀ r x : Int, 0 ≤ x → x ≤ r → led r F x = Tn.led r Z (cl r (x + a))
  eq : F = if a = 0 then Z else a :: Z
theorem core_of {F : List Int} (h : NF F) : ∃ a Z, Core F a Z := by
  obtain ⟨k, d⟩ := h
  have plain : ∀ {F : List Int}, Dec F → top2 F = (hd F).natAbs → ∃ a Z, Core F a Z := fun {F} d t =>
    ⟨0, F, d, t, Nat.zero_le _, .inl rfl, fun r x h0 h1 => by rw [show cl r (x + 0) = x by unfold cl; omega], by rw [if_pos rfl]⟩
  match F, k, d with
  | [], _, _ => exact plain True.intro rfl
  | [a], k, _ => exact plain k (by show max a.natAbs (0 : Int).natAbs = a.natAbs; omega)
  | a :: b :: l, k, d =>
    by_cases c : b.natAbs < a.natAbs
    · exact plain ⟨k.1, k.2.1, c, d⟩ (by show max a.natAbs b.natAbs = a.natAbs; omega)
    · refine ⟨a, b :: l, d, by show max a.natAbs b.natAbs = b.natAbs; omega, by show a.natAbs ≤ b.natAbs; omega, .inr k.2.1, fun r x _ _ => rfl, by rw [if_neg k.1]⟩
theorem top1 {z a x : Int} {Y : List Int} (k : Dec (z :: Y)) (ha : a.natAbs ≤ z.natAbs) (ho : a = 0 ∨ (0 < a ↔ z < 0)) (x0 : 0 ≤ x) (x1 : x ≤ z.natAbs + 1) :
    led (z.natAbs + 1) (z :: Y) (cl (z.natAbs + 1) (x + a)) = (if z < 0 then (if x + a ≥ z.natAbs + 1 then 1 else 0) else (if x + a ≤ 0 then (z.natAbs : Int) else z.natAbs + 1)) + Y.sum := by
  have hz := k.hd
  have e : cl (z.natAbs + 1) (cl (z.natAbs + 1) (x + a) + z) = (if z < 0 then (if x + a ≥ z.natAbs + 1 then 1 else 0) else (if x + a ≤ 0 then (z.natAbs : Int) else z.natAbs + 1)) := by
    unfold cl
    split
    · split <;> omega
    · split <;> omega
  show led _ Y (cl (z.natAbs + 1) (cl (z.natAbs + 1) (x + a) + z)) = _
  rw [e]
  cases Y with
  | nil => show _ = _ + (0 : Int); rw [Int.add_zero]; rfl
  | cons y Y =>
    have k1 := k.2.1
    have k2 := k.2.2.1
    split
    · split
      · exact nocl k.2.2.2 (by omega) (by omega) (by omega) (by omega)
      · exact nocl k.2.2.2 (by omega) (by omega) (by omega) (by omega)
    · split
      · exact nocl k.2.2.2 (by omega) (by omega) (by omega) (by omega)
      · exact nocl k.2.2.2 (by omega) (by omega) (by omega) (by omega)
/-- in the room that is greater by one the ends are led apart -/
theorem apart {F : List Int} {a : Int} {Z : List Int} (c : Core F a Z) : led ((hd Z).natAbs + 1) F 0 ≠ led ((hd Z).natAbs + 1) F ((hd Z).natAbs + 1) := by
  rw [c.led _ _ (Int.le_refl 0) (by omega), c.led _ _ (by omega) (Int.le_refl _)]
  cases Z with
  | nil =>
    have ha : a = 0 := by have : a.natAbs ≤ (0 : Int).natAbs := c.le; omega
    subst ha
    show cl ((0 : Int).natAbs + 1) _ ≠ cl ((0 : Int).natAbs + 1) _
    unfold cl
    omega
  | cons z Y =>
    have hz := c.dec.hd
    have hle : a.natAbs ≤ z.natAbs := c.le
    have ho : a = 0 ∨ (0 < a ↔ z < 0) := c.opp
    show led ((z.natAbs : Int) + 1) (z :: Y) (cl ((z.natAbs : Int) + 1) (0 + a)) ≠ led ((z.natAbs : Int) + 1) (z :: Y) (cl ((z.natAbs : Int) + 1) ((z.natAbs : Int) + 1 + a))
    rw [top1 c.dec hle ho (Int.le_refl 0) (by omega), top1 c.dec hle ho (by omega) (Int.le_refl _)]
    by_cases c1 : z < 0
    · rw [if_pos c1, if_pos c1, if_neg (by omega), if_pos (by omega)]; omega
    · rw [if_neg c1, if_neg c1, if_pos (by omega), if_neg (by omega)]; omega
/-- in lesser ones they are not -/
theorem alike {F : List Int} {a : Int} {Z : List Int} (c : Core F a Z) {r x x' : Int} (r0 : 0 < r) (hr : r ≤ (hd Z).natAbs) (h0 : 0 ≤ x) (h1 : x ≤ r) (k0 : 0 ≤ x') (k1 : x' ≤ r) : led r F x = led r F x' := by
  rw [c.led _ _ h0 h1, c.led _ _ k0 k1]
  cases Z with
  | nil => exact absurd hr (by show ¬ r ≤ ((0 : Int).natAbs : Int); omega)
  | cons z Y =>
    have r00 : 0 ≤ r := by omega
    exact const hr c.dec.hd (cl_in r00).1 (cl_in r00).2 (cl_in r00).1 (cl_in r00).2
theorem nf_eq {F G : List Int} (hF : NF F) (hG : NF G) (h : ∀ r x : Int, 0 ≤ r → r ≤ (min (top2 F) (top2 G) : Nat) + 1 → 0 ≤ x → x ≤ r → led r F x = led r G x) : F = G := by
  obtain ⟨a, Z, c⟩ := core_of hF
  obtain ⟨b, W, d⟩ := core_of hG
  rw [c.top, d.top] at h
  have hM : (hd Z).natAbs = (hd W).natAbs := by
    rcases Nat.lt_trichotomy (hd Z).natAbs (hd W).natAbs with l | l | l
    · exfalso
      refine apart c ?_
      have e0 := h ((hd Z).natAbs + 1) 0 (by omega) (by omega) (by omega) (by omega)
      have e1 := h ((hd Z).natAbs + 1) ((hd Z).natAbs + 1) (by omega) (by omega) (by omega) (by omega)
      rw [e0, e1]
      exact alike d (by omega) (by omega) (by omega) (by omega) (by omega) (by omega)
    · exact l
    · exfalso
      refine apart d ?_
      have e0 := h ((hd W).natAbs + 1) 0 (by omega) (by omega) (by omega) (by omega)
      have e1 := h ((hd W).natAbs + 1) ((hd W).natAbs + 1) (by omega) (by omega) (by omega) (by omega)
      rw [← e0, ← e1]
      exact alike c (by omega) (by omega) (by omega) (by omega) (by omega) (by omega)
  have hZW : Z = W := by
    refine dec_eq Z W c.dec d.dec hM fun r r0 r1 => ?_
    cases Z with
    | nil =>
      have hW := dec_hd0 d.dec hM.symm
      subst hW
      rfl
    | cons z Y =>
      cases W with
      | nil => have := dec_hd0 c.dec hM; cases this
      | cons w V =>
        have e := h r 0 r0 (by omega) (Int.le_refl 0) r0
        rw [c.led _ _ (Int.le_refl 0) r0, d.led _ _ (Int.le_refl 0) r0] at e
        have a1 : led r (z :: Y) 0 = led r (z :: Y) (cl r (0 + a)) := const r1 c.dec.hd (Int.le_refl 0) r0 (cl_in r0).1 (cl_in r0).2
        have a2 : led r (w :: V) 0 = led r (w :: V) (cl r (0 + b)) := const (by have hM' : z.natAbs = w.natAbs := hM; have r1' : r ≤ z.natAbs := r1; omega) d.dec.hd (Int.le_refl 0) r0 (cl_in r0).1 (cl_in r0).2
        rw [a1, a2, e]
  subst hZW
  have hab : a = b := by
    have c1 := c.le
    have d1 := d.le
    cases Z with
    | nil =>
      have z1 : a.natAbs ≤ (0 : Int).natAbs := c1
      have z2 : b.natAbs ≤ (0 : Int).natAbs := d1
      omega
    | cons z Y =>
      have hz := c.dec.hd
      have ca : a.natAbs ≤ z.natAbs := c1
      have cb : b.natAbs ≤ z.natAbs := d1
      have oa : a = 0 ∨ (0 < a ↔ z < 0) := c.opp
      have ob : b = 0 ∨ (0 < b ↔ z < 0) := d.opp
      have h' : ∀ x : Int, 0 ≤ x → x ≤ z.natAbs + 1 → led (z.natAbs + 1) F x = led (z.natAbs + 1) G x := fun x x0 x1 => h _ x (by omega) (by show _ ≤ ((min z.natAbs z.natAbs : Nat) : Int) + 1; omega) x0 x1
      have g : ∀ x : Int, 0 ≤ x → x ≤ z.natAbs + 1 → (if z < 0 then (if x + a ≥ z.natAbs + 1 then 1 else 0) else (if x + a ≤ 0 then (z.natAbs : Int) else z.natAbs + 1)) = (if z < 0 then (if x + b ≥ z.natAbs + 1 then 1 else 0) else (if x + b ≤ 0 then (z.natAbs : Int) else z.natAbs + 1)) := by
        intro x x0 x1
        have e := h' x x0 x1
        rw [c.led _ _ x0 x1, d.led _ _ x0 x1, top1 c.dec ca oa x0 x1, top1 c.dec cb ob x0 x1] at e
        omega
      by_cases hzs : z < 0
      · have g1 := g (z.natAbs + 1 - a) (by omega) (by omega)
        have g2 := g (z.natAbs + 1 - b) (by omega) (by omega)
        rw [if_pos hzs, if_pos hzs] at g1 g2
        by_cases l : a < b
        · rw [if_neg (by omega), if_pos (by omega)] at g2; omega
        · by_cases l2 : b < a
          · rw [if_pos (by omega), if_neg (by omega)] at g1; omega
          · omega
      · have g1 := g (-a) (by omega) (by omega)
        have g2 := g (-b) (by omega) (by omega)
        rw [if_neg hzs, if_neg hzs] at g1 g2
        by_cases l : a < b
        · rw [if_pos (by omega), if_neg (by omega)] at g1; omega
        · by_cases l2 : b < a
          · rw [if_neg (by omega), if_pos (by omega)] at g2; omega
          · omega
  subst hab
  rw [c.eq, d.eq]
end Tn
local macro_rules | `(tactic| walk_at "nm") => `(tactic| with_unfolding_all first
  | refine Lw.e_name 0 (q := ?_) | refine Lw.e_name 1 (q := ?_) | refine Lw.e_name 2 (q := ?_) | refine Lw.e_name 3 (q := ?_) | refine Lw.e_name 4 (q := ?_) | refine Lw.e_name 5 (q := ?_) | refine Lw.e_name 6 (q := ?_) | refine Lw.e_name 7 (q := ?_) | refine Lw.e_name 8 (q := ?_) | refine Lw.e_name 9 (q := ?_) | refine Lw.e_name 10 (q := ?_) | refine Lw.e_name 11 (q := ?_) | refine Lw.e_name 12 (q := ?_))
local macro_rules | `(tactic| walk_at "ii") => `(tactic| refine ⟨_, _, rfl, rfl, ?_⟩)
local macro_rules | `(tactic| walk_at "e") => `(tactic| first
  | walk_at "nm" | refine Lw.e_int ?_ | refine Lw.e_non ?_ | refine Lw.e_bl ?_ | refine Lw.e_str ?_
  | refine Lw.a_nil ?_ | refine Lw.a_cons (h := ?_) | refine Lw.k_nil ?_ | refine Lw.k_cons ?_
  | refine Lw.e_if ?_ | refine Lw.e_and ?_ | refine Lw.e_or ?_ | refine Lw.e_one ?_ | refine Lw.e_not ?_ | refine Lw.e_lst ?_ | refine Lw.e_tup ?_ | refine Lw.e_neg ?_)
local macro_rules | `(tactic| walk_at "E") => `(tactic| repeat walk_at "e")
namespace K37
open PySem L2 Evl Lw
def top (i : Nat) : Stmt := PySem.Challenge.pw_listwindow_k37_short_forms_in_all_rooms.main.body.getD i (.Pass ⟨0, 0, 0, 0⟩)
abbrev s_sf : Stmt := top 1
abbrev s_su : Stmt := top 2
abbrev s_sh : Stmt := top 3
abbrev s_is : Stmt := top 4
abbrev s_al : Stmt := top 5
abbrev s_jug : Stmt := top 7
abbrev s_pour : Stmt := top 8
abbrev s_turns : Stmt := top 9
abbrev s_led : Stmt := top 10
abbrev s_gre : Stmt := top 11
abbrev s_same : Stmt := top 12
abbrev s_isf : Stmt := top 13
abbrev s_chg : Stmt := top 14
abbrev s_fr : Stmt := top 15
abbrev s_law : Stmt := top 16
end K37
namespace K37
open PySem L2 Evl Lw
/-! ### sizes -/
def Bd : Nat := 2 ^ 120
theorem stepF_bd {n : Nat} {acc : List Int} {t : Int} (h : ∀ y ∈ acc, y.natAbs ≤ n * Bd) (ht : t.natAbs ≤ Bd) : ∀ y ∈ Tn.stepF acc t, y.natAbs ≤ (n + 1) * Bd := by
  have up : n * Bd + Bd = (n + 1) * Bd := by rw [Nat.add_mul, Nat.one_mul]
  have h' : ∀ y ∈ acc, y.natAbs ≤ (n + 1) * Bd := fun y hy => by have := h y hy; omega
  rcases Tn.snoc_of acc with rfl | ⟨l, x, rfl⟩
  · rw [Tn.stepF_nil]
    split
    · exact h'
    · intro y hy
      rw [List.mem_singleton.mp hy]
      have : 0 ≤ n * Bd := Nat.zero_le _
      omega
  · rw [Tn.stepF_snoc]
    split
    · intro y hy
      rcases List.mem_append.mp hy with hy | hy
      · exact h' y (List.mem_append_left _ hy)
      · rw [List.mem_singleton.mp hy]
        have := h x (List.mem_append_right _ (List.mem_singleton.mpr rfl))
        omega
    · split
      · exact h'
      · intro y hy
        rcases List.mem_append.mp hy with hy | hy
        · exact h' y hy
        · rw [List.mem_singleton.mp hy]
          have : 0 ≤ n * Bd := Nat.zero_le _
          omega
theorem fold_next {ts : List Int} {i : Nat} {t : Int} (h : ts[i]? = some t) : (ts.take (i + 1)).foldl Tn.stepF [] = Tn.stepF ((ts.take i).foldl Tn.stepF []) t := by
  rw [take_next h, List.foldl_append]
  rfl
theorem drop_at {l : List Int} {i : Nat} {x : Int} (h : l[i]? = some x) : l.drop i = x :: l.drop (i + 1) := by
  obtain ⟨hi, e⟩ := List.getElem?_eq_some_iff.mp h
  rw [List.drop_eq_getElem_cons hi, e]
/-- where the first middle turn is joined -/
theorem mid_at : ∀ {l : List Int} {at_ : Nat} {x y z : Int}, l[at_]? = some x → l[at_ + 1]? = some y → l[at_ + 2]? = some z →
    (∀ j < at_, ∀ a b c, l[j]? = some a → l[j + 1]? = some b → l[j + 2]? = some c → ¬ b.natAbs ≤ min a.natAbs c.natAbs) → y.natAbs ≤ min x.natAbs z.natAbs →
    Tn.midJoin l = some (l.take at_ ++ [x + y + z] ++ l.drop (at_ + 3))
  | [], _, _, _, _, h, _, _, _, _ => by simp at h
  | [_], 0, _, _, _, _, h, _, _, _ => by simp at h
  | [_], _ + 1, _, _, _, h, _, _, _, _ => by simp at h
  | [_, _], 0, _, _, _, _, _, h, _, _ => by simp at h
  | [_, _], 1, _, _, _, _, h, _, _, _ => by simp at h
  | [_, _], _ + 2, _, _, _, h, _, _, _, _ => by simp at h
  | a :: b :: c :: l, 0, x, y, z, h1, h2, h3, _, hc => by
    cases h1
    cases h2
    cases h3
    unfold Tn.midJoin
    rw [if_pos hc]
    rfl
  | a :: b :: c :: l, n + 1, x, y, z, h1, h2, h3, hj, hc => by
    have h0 : ¬ b.natAbs ≤ min a.natAbs c.natAbs := hj 0 (Nat.succ_pos _) a b c rfl rfl rfl
    have ih := mid_at (l := b :: c :: l) (at_ := n) (x := x) (y := y) (z := z) (by simpa using h1) (by simpa using h2) (by simpa using h3) (fun j hj' a' b' c' e1 e2 e3 => hj (j + 1) (by omega) a' b' c' (by simpa using e1) (by simpa using e2) (by simpa using e3)) hc
    unfold Tn.midJoin
    rw [if_neg h0, ih]
    rfl
theorem mid_no : ∀ {l : List Int}, (∀ j, ∀ a b c, l[j]? = some a → l[j + 1]? = some b → l[j + 2]? = some c → ¬ b.natAbs ≤ min a.natAbs c.natAbs) → Tn.midJoin l = none
  | [], _ => rfl
  | [_], _ => rfl
  | [_, _], _ => rfl
  | a :: b :: c :: l, h => by
    have h0 := h 0 a b c rfl rfl rfl
    have ih := mid_no (l := b :: c :: l) fun j a' b' c' e1 e2 e3 => h (j + 1) a' b' c' (by simpa using e1) (by simpa using e2) (by simpa using e3)
    unfold Tn.midJoin
    rw [if_neg h0, ih]
    rfl
section
variable {P : Program} {w : World} {K : PySem.W.Frag} {mg : Str → Option Value} {base : Heap}
/-! _summed -/
theorem sc_su : FnScope ["turns", "found", "turn"] ["turns"] (defScope s_su) := ⟨rfl, rfl, rfl, by decide +kernel, rfl, by decide +kernel, by decide +kernel⟩
def Small (ts : List Int) : Prop := ts.length ≤ 100 ∧ ∀ t ∈ ts, t.natAbs ≤ Bd
def sp_su (K : PySem.W.Frag) : Sp := fun vs H Q _ => ∃ (B : Hp) (v : V) (ts : List Int), vs = [v] ∧ Ex B H ∧ Dt K B v ts ∧ Small ts ∧ ∀ D H', Gr M0 B H B H' → H D = none → H' D = some (.lst ((Tn.summed ts).map V.int)) → Q (.ref D) H'
theorem ok_su : ∀ f fd, Fun K "_summed" "_summed" s_su f fd → FnOk P w K mg base CX0 1 f fd ["turns"] (sp_su K) := by
  refine ok_of sc_su (fun vs H Q E h => by obtain ⟨_, _, _, rfl, _⟩ := h; rfl) (fun f cdv A outer s H vs Q E hr h => ?_)
  obtain ⟨B, v, ts, rfl, kB, hd, ⟨hlen, hbd⟩, k⟩ := h
  obtain ⟨a, vs, rfl, hL, hA⟩ := dt_list hd
  have ei := hA.ints
  subst ei
  refine s_cons (s_set 1 sc_su.nd (h := e_lst (a_nil ⟨Nat.zero_le _, fun F hF => ?_⟩)))
  have g0 := (Gr.refl (M := M0) kB).own (o := .lst []) hF
  have e0 : (upd H F (.lst [])) F = some (.lst (((ts.take 0).foldl Tn.stepF []).map V.int)) := upd_same
  have bF : B F = none := none_of_ex kB hF
  generalize upd H F (HO.lst []) = H0 at *
  refine s_cons (s_for (h := i_list ?_))
  walk_at "E"
  refine ⟨_, rfl, ⟨_, ex_l g0.k hL⟩, for_it walk_list (fun i σ H' => Gr M0 B H B H' ∧ (∃ u, σ = [some (.ref a), some (.ref F), u]) ∧ H' F = some (.lst (((ts.take i).foldl Tn.stepF []).map V.int)) ∧ (∀ y ∈ (ts.take i).foldl Tn.stepF [], y.natAbs ≤ i * Bd) ∧ ((ts.take i).foldl Tn.stepF []).length ≤ i)
    ⟨g0, ⟨none, rfl⟩, e0, (fun y hy => nomatch hy), Nat.le_refl _⟩ (fun i σ H' _ ⟨g, _⟩ => ex_l g.k hL) ?_ ?_⟩
  · rintro i x σ H' H'' hi ⟨g, ⟨u, rfl⟩, eF, hb, hl⟩ ⟨rfl, hx⟩
    rw [List.length_map] at hi
    rw [List.getElem?_map] at hx
    cases et : ts[i]? with
    | none => rw [et] at hx; cases hx
    | some t =>
      rw [et] at hx
      cases hx
      have nx := fold_next et
      have tb := hbd t (List.mem_of_getElem? et)
      have nb := stepF_bd hb tb
      have nl : (Tn.stepF ((ts.take i).foldl Tn.stepF []) t).length ≤ i + 1 := Nat.le_trans (Tn.step_len _ _) (by omega)
      rw [← nx] at nb nl
      have fin : ∀ Hz, Gr M0 B H B Hz → Hz F = some (.lst ((Tn.stepF ((ts.take i).foldl Tn.stepF []) t).map V.int)) → Gr M0 B H B Hz ∧ (∃ u, [some (V.ref a), some (.ref F), some (.int t)] = [some (V.ref a), some (.ref F), u]) ∧ Hz F = some (.lst (((ts.take (i + 1)).foldl Tn.stepF []).map V.int)) ∧ (∀ y ∈ (ts.take (i + 1)).foldl Tn.stepF [], y.natAbs ≤ (i + 1) * Bd) ∧ ((ts.take (i + 1)).foldl Tn.stepF []).length ≤ i + 1 := fun Hz gz ez => ⟨gz, ⟨_, rfl⟩, by rw [nx]; exact ez, nb, nl⟩
      generalize (ts.take i).foldl Tn.stepF [] = acc at *
      refine g_name 2 sc_su.nd (q := ?_)
      rcases Tn.snoc_of acc with rfl | ⟨l, y, rfl⟩
      · -- nothing was found yet
        refine s_one (s_if (t_wb (b_and (t_tru (h := ?_)))))
        walk_at "E"
        refine ⟨false, .inl ⟨_, SqL.of eF, rfl⟩, iff_ rfl (iff_ rfl ?_)⟩
        refine s_one (s_if (t_cmp op_ne (h := ?_)))
        walk_at "E"
        refine ⟨rfl, _, rfl, ?_⟩
        by_cases ht : t = 0
        · subst ht
          refine iff_ rfl (s_nil (fin _ g eF))
        · refine ift (by simp [ht]) ?_
          refine s_one (s_expr (h := e_bm PySem.F.plainAttrs_list PySem.F.slot_list_append PySem.F.type_list_append mt_append (h := ?_)))
          walk_at "E"
          refine ⟨.inl ⟨rfl, _, SqL.of eF⟩, ?_⟩
          walk_at "E"
          refine ⟨F, _, _, rfl, rfl, eF, by show 0 < sizeLine; decide, fin _ (g.mut (.inr hF) bF) ?_⟩
          rw [upd_same, Tn.stepF_nil, if_neg ht]
          rfl
      · have hyb := hb y (List.mem_append_right _ (List.mem_singleton.mpr rfl))
        have eY : ((l ++ [y]).map V.int)[l.length]? = some (.int y) := by rw [List.map_append, List.getElem?_append_right (by rw [List.length_map]; exact Nat.le_refl _), List.length_map, Nat.sub_self]; rfl
        have eI : ixN ((l ++ [y]).map V.int).length (-1) = some l.length := by
          unfold ixN
          rw [List.length_map, List.length_append, List.length_singleton, if_neg (by omega), if_pos (by omega)]
          congr 1
          omega
        have eA : atI ((l ++ [y]).map V.int) (-1) = some (.int y) := by unfold atI; rw [eI]; exact eY
        have cm : CMulW y t := by
          have e120 : Bd = 1329227995784915872903807060280344576 := by unfold Bd; decide
          rw [e120] at hyb tb
          have e1 : (2 : Nat) ^ 200 = 1606938044258990275541962092341162602522202993782792835301376 := by decide
          exact wide_mul (a := 200) (b := 200) (by rw [e1]; omega) (by rw [e1]; omega) (by decide) (by decide) (by decide)
        refine s_one (s_if (t_wb (b_and (t_tru (h := ?_)))))
        walk_at "E"
        refine ⟨true, .inl ⟨_, SqL.of eF, by cases l <;> rfl⟩, ift rfl ?_⟩
        refine b_and1 (t_cmp op_gt (h := e_mul (h := e_ixL (h := ?_))))
        walk_at "E"
        refine ⟨_, rfl, F, _, -1, _, rfl, rfl, SqL.of eF, eA, ?_⟩
        walk_at "E"
        refine ⟨_, _, rfl, rfl, cm, ?_⟩
        walk_at "E"
        refine ⟨_, _, rfl, rfl, _, rfl, ifd (fun c => ?_) fun c => ?_⟩
        · refine s_one (s_augItem (h := ?_))
          show Lw.WE _ _ _ _ _
          walk_at "E"
          refine ⟨_, rfl, F, _, -1, _, rfl, rfl, SqL.of eF, eA, ?_⟩
          show Lw.WE _ _ _ _ _
          walk_at "E"
          refine ⟨_, _, rfl, rfl, F, _, -1, _, rfl, rfl, eF, eI, fin _ (g.mut (.inr hF) bF) ?_⟩
          rw [upd_same, Tn.stepF_snoc, if_pos c, List.map_append, List.map_append, List.set_append_right _ _ (by rw [List.length_map]; exact Nat.le_refl _), List.length_map, Nat.sub_self]
          rfl
        refine s_one (s_if (t_cmp op_ne (h := ?_)))
        walk_at "E"
        refine ⟨rfl, _, rfl, ?_⟩
        by_cases ht : t = 0
        · subst ht
          refine iff_ rfl (s_nil (fin _ g ?_))
          rw [Tn.stepF_snoc, if_neg c, if_pos rfl]
          exact eF
        · refine ift (by simp [ht]) ?_
          refine s_one (s_expr (h := e_bm PySem.F.plainAttrs_list PySem.F.slot_list_append PySem.F.type_list_append mt_append (h := ?_)))
          walk_at "E"
          refine ⟨.inl ⟨rfl, _, SqL.of eF⟩, ?_⟩
          walk_at "E"
          refine ⟨F, _, _, rfl, rfl, eF, Nat.lt_of_le_of_lt (by rw [List.length_map]; omega : _ ≤ 100) (by decide), fin _ (g.mut (.inr hF) bF) ?_⟩
          rw [upd_same, Tn.stepF_snoc, if_neg c, if_neg ht, List.map_append (l₁ := l ++ [y])]
          rfl
  · rintro σ H' ⟨g, ⟨u, rfl⟩, eF, hb, hl⟩
    rw [List.length_map, List.take_length] at eF
    refine s_one (s_ret ?_)
    walk_at "E"
    exact k F H' g hF eF

/-! _shorter -/
abbrev N_sh : List Str := ["form", "sizes", "at", "turn"]
theorem sc_sh : FnScope N_sh ["form"] (defScope s_sh) := ⟨rfl, rfl, rfl, by decide +kernel, rfl, by decide +kernel, by decide +kernel⟩
def sp_sh : Sp := fun vs H Q _ => ∃ (B : Hp) (a : Addr) (ns : List Int), vs = [.ref a] ∧ Ex B H ∧ H a = some (.lst (ns.map V.int)) ∧ ns.length ≤ 100 ∧ ∀ D H', Gr M0 B H B H' → (D = a ∨ H D = none) → H' D = some (.lst ((Tn.shorter ns).map V.int)) → Q (.ref D) H'
theorem ok_sh (mr : mg "range" = none) (ml : mg "len" = none) (mm : mg "min" = none) (ms : mg "sum" = none) (ma : mg "abs" = none) : ∀ f fd, Fun K "_shorter" "_shorter" s_sh f fd → FnOk P w K mg base CX0 1 f fd ["form"] sp_sh := by
  refine ok_of sc_sh (fun vs H Q E h => by obtain ⟨_, _, _, rfl, _⟩ := h; rfl) (fun f cdv A outer s H vs Q E hr h => ?_)
  obtain ⟨B, a, ns, rfl, kB, ha, hlen, k⟩ := h
  -- sizes
  refine s_cons (s_setLc 1 [("turn", 3)] sc_sh.nd (ok := blkOk_by (N := N_sh) (sc := defScope s_sh) (by decide +kernel)) (h := i_list ?_))
  walk_at "E"
  refine ⟨_, rfl, ⟨_, SqL.of ha⟩, fun S hS => lcI (K := K) (fun t => some ((t.natAbs : Nat) : Int)) (SqL.of ha) kB hS (Nat.lt_of_le_of_lt hlen (by decide)) ?_ ?_⟩
  · intro i y B' H' hy g KT KF kt kf s0 H0 C0 cl fp
    refine g_name 3 sc_sh.nd (q := ⟨rfl, ?_⟩)
    intro s0 H0 C0 cl fp
    refine ts_nil (ift rfl ?_)
    intro s0 H0 C0 cl fp
    refine e_blt call_abs ma (by decide +kernel) ?_
    walk_at "E"
    refine ⟨_, rfl, ?_⟩
    rw [py_abs]
    exact kt _ _ B' _ rfl (Gr.refl g.k) (dtI _)
  intro B1 H1 acc g1 b1 e1 d1
  rw [fm_map] at d1
  have ei := d1.ints
  subst ei
  have g1' := g1.base (Ex.refl B)
  have ha1 := g1.ex _ _ ha
  have szat : ∀ {i : Nat} {x : Int}, ns[i]? = some x → ((ns.map fun t => ((t.natAbs : Nat) : Int)).map V.int)[i]? = some (.int (x.natAbs : Nat)) := fun h => by rw [List.getElem?_map, List.getElem?_map, h]; rfl
  -- the first that can be joined
  refine s_cons (s_for (h := i_rng2 mr (h := a_cons (h := e_int (a_cons (h := e_sub (h := e_blt call_len_seq ml PySem.boot_len ?_)))))))
  walk_at "E"
  refine ⟨_, _, rfl, .inl (SqL.of ha1), ?_⟩
  walk_at "E"
  refine ⟨_, _, rfl, rfl, a_nil ⟨_, _, rfl, ⟨by decide, by decide, by rw [List.length_map]; omega, by rw [List.length_map]; omega⟩, ?_⟩⟩
  rw [List.length_map]
  have en : ((ns.length : Int) - 1 - 1).toNat = ns.length - 2 := by omega
  rw [en]
  refine for_it (walk_from (a := 1)) (fun i σ H' => H' = H1 ∧ (∃ u, σ = [some (.ref a), some (.ref S), u, none]) ∧ ∀ j < i, ∀ x y z, ns[j]? = some x → ns[j + 1]? = some y → ns[j + 2]? = some z → ¬ y.natAbs ≤ min x.natAbs z.natAbs)
    ⟨rfl, ⟨none, rfl⟩, fun j hj => absurd hj (Nat.not_lt_zero _)⟩ (fun _ _ _ _ _ => trivial) ?_ ?_
  · rintro i x σ H' H'' hi ⟨rfl, ⟨u, rfl⟩, hno⟩ ⟨rfl, rfl⟩
    have h0 : ns[i]? = some (ns[i]'(by omega)) := List.getElem?_eq_getElem (by omega)
    have h1 : ns[i + 1]? = some (ns[i + 1]'(by omega)) := List.getElem?_eq_getElem (by omega)
    have h2 : ns[i + 2]? = some (ns[i + 2]'(by omega)) := List.getElem?_eq_getElem (by omega)
    generalize ns[i]'(by omega) = x0 at *
    generalize ns[i + 1]'(by omega) = x1 at *
    generalize ns[i + 2]'(by omega) = x2 at *
    refine g_name 2 sc_sh.nd (q := ?_)
    refine s_one (s_if (t_cmp op_le (h := e_ixL (h := ?_))))
    walk_at "E"
    refine ⟨S, _, _, _, rfl, rfl, SqL.of e1, at_of (j := i + 1) (by omega) (szat h1), ?_⟩
    refine e_blt (call_min2 rfl) mm (by decide +kernel) (a_cons (h := e_ixL (h := ?_)))
    walk_at "E"
    refine e_sub (h := ?_)
    walk_at "E"
    refine ⟨_, _, rfl, rfl, S, _, _, _, rfl, rfl, SqL.of e1, at_of (j := i) (by omega) (szat h0), a_cons (h := e_ixL (h := ?_))⟩
    walk_at "E"
    refine e_add (h := ?_)
    walk_at "E"
    refine ⟨_, _, rfl, rfl, S, _, _, _, rfl, rfl, SqL.of e1, at_of (j := i + 2) (by omega) (szat h2), a_nil ⟨_, _, rfl, ?_⟩⟩
    rw [py_min]
    refine ⟨_, _, rfl, rfl, _, rfl, ifd (fun c => ?_) fun c => s_nil ⟨rfl, ⟨_, rfl⟩, fun j hj x y z a1 a2 a3 => ?_⟩⟩
    · have hm := mid_at h0 h1 h2 hno (by omega)
      have hs : Tn.shorter ns = ns.take i ++ [x0 + x1 + x2] ++ ns.drop (i + 3) := by unfold Tn.shorter; rw [hm]
      refine s_one (s_ret (e_bin op_cat (h := e_bin op_cat (h := e_slice (h := ?_)))))
      walk_at "E"
      refine o_none (o_some (e_sub (h := ?_)))
      walk_at "E"
      refine ⟨_, _, rfl, rfl, _, rfl, a, _, rfl, SqL.of ha1, fun p hp => ?_⟩
      rw [show ((1 + i : Nat) : Int) - 1 = ((i : Nat) : Int) by omega, cut_to (by omega)]
      have ha2 : (upd H'' p (.lst ((ns.take i).map V.int))) a = some (.lst (ns.map V.int)) := by rw [upd_ne (ne_of_none ha1 hp)]; exact ha1
      have ep : (upd H'' p (.lst ((ns.take i).map V.int))) p = some (.lst ((ns.take i).map V.int)) := upd_same
      have g2 := g1'.own (o := .lst ((ns.take i).map V.int)) hp
      have hp0 := g1'.free hp
      generalize upd H'' p (HO.lst ((ns.take i).map V.int)) = H2 at *
      refine e_lst (a_cons (h := e_blt (cr_sum rfl) ms (by decide +kernel) (a_cons (h := e_slice (h := ?_)))))
      walk_at "E"
      refine o_some (e_sub (h := ?_))
      walk_at "E"
      refine ⟨_, _, rfl, rfl, _, rfl, o_some (e_add (h := ?_))⟩
      walk_at "E"
      refine ⟨_, _, rfl, rfl, _, rfl, a, _, rfl, SqL.of ha2, fun q hq => ?_⟩
      rw [show ((1 + i : Nat) : Int) - 1 = ((i : Nat) : Int) by omega, show ((1 + i : Nat) : Int) + 2 = ((i + 3 : Nat) : Int) by omega, cut_mid (by omega) (by omega)]
      have e3 : (ns.drop i).take (i + 3 - i) = [x0, x1, x2] := by
        rw [show i + 3 - i = 3 by omega]
        rw [drop_at h0, drop_at h1, drop_at h2]
        rfl
      rw [e3]
      have ha3 : (upd H2 q (.lst ([x0, x1, x2].map V.int))) a = some (.lst (ns.map V.int)) := by rw [upd_ne (ne_of_none ha2 hq)]; exact ha2
      have ep3 : (upd H2 q (.lst ([x0, x1, x2].map V.int))) p = some (.lst ((ns.take i).map V.int)) := by rw [upd_ne (ne_of_none ep hq)]; exact ep
      have eq3 : (upd H2 q (.lst ([x0, x1, x2].map V.int))) q = some (.lst ([x0, x1, x2].map V.int)) := upd_same
      have g3 := g2.own (o := .lst ([x0, x1, x2].map V.int)) hq
      generalize upd H2 q (HO.lst ([x0, x1, x2].map V.int)) = H3 at *
      refine a_nil ⟨q, _, rfl, SqL.of eq3, a_nil ⟨by show 1 ≤ sizeLine; decide, fun r' hr' => ?_⟩⟩
      have ha4 : (upd H3 r' (.lst [.int [x0, x1, x2].sum])) a = some (.lst (ns.map V.int)) := by rw [upd_ne (ne_of_none ha3 hr')]; exact ha3
      have ep4 : (upd H3 r' (.lst [.int [x0, x1, x2].sum])) p = some (.lst ((ns.take i).map V.int)) := by rw [upd_ne (ne_of_none ep3 hr')]; exact ep3
      have er4 : (upd H3 r' (.lst [.int [x0, x1, x2].sum])) r' = some (.lst [.int [x0, x1, x2].sum]) := upd_same
      have g4 := g3.own (o := .lst [.int [x0, x1, x2].sum]) hr'
      generalize upd H3 r' (HO.lst [.int [x0, x1, x2].sum]) = H4 at *
      refine ⟨p, r', _, _, rfl, rfl, ep4, er4, Nat.le_trans (by rw [List.length_map, List.length_take]; show _ + 1 ≤ 101; omega : _ ≤ 101) (by decide), fun t ht => ?_⟩
      have ha5 : (upd H4 t (.lst ((ns.take i).map V.int ++ [.int [x0, x1, x2].sum]))) a = some (.lst (ns.map V.int)) := by rw [upd_ne (ne_of_none ha4 ht)]; exact ha4
      have et5 : (upd H4 t (.lst ((ns.take i).map V.int ++ [.int [x0, x1, x2].sum]))) t = some (.lst ((ns.take i).map V.int ++ [.int [x0, x1, x2].sum])) := upd_same
      have g5 := g4.own (o := .lst ((ns.take i).map V.int ++ [.int [x0, x1, x2].sum])) ht
      generalize upd H4 t (HO.lst ((ns.take i).map V.int ++ [.int [x0, x1, x2].sum])) = H5 at *
      refine e_slice (h := ?_)
      walk_at "E"
      refine o_some (e_add (h := ?_))
      walk_at "E"
      refine ⟨_, _, rfl, rfl, _, rfl, o_none ⟨a, _, rfl, SqL.of ha5, fun z hz => ?_⟩⟩
      rw [show ((1 + i : Nat) : Int) + 2 = ((i + 3 : Nat) : Int) by omega, cut_from (by omega)]
      have et6 : (upd H5 z (.lst ((ns.drop (i + 3)).map V.int))) t = some (.lst ((ns.take i).map V.int ++ [.int [x0, x1, x2].sum])) := by rw [upd_ne (ne_of_none et5 hz)]; exact et5
      have g6 := g5.own (o := .lst ((ns.drop (i + 3)).map V.int)) hz
      refine ⟨t, z, _, _, rfl, rfl, et6, upd_same, Nat.le_trans (by rw [List.length_append, List.length_map, List.length_map, List.length_take, List.length_drop]; show _ + 1 + _ ≤ 201; omega : _ ≤ 201) (by decide), fun D hD => ?_⟩
      refine k D _ (g6.own hD) (.inr (g6.free hD)) ?_
      rw [upd_same, hs, List.map_append, List.map_append]
      have es : [x0, x1, x2].sum = x0 + x1 + x2 := by
        show x0 + (x1 + (x2 + 0)) = _
        omega
      rw [es]
      rfl
    · by_cases hji : j = i
      · subst hji
        rw [h0] at a1
        rw [h1] at a2
        rw [h2] at a3
        cases a1
        cases a2
        cases a3
        omega
      · exact hno j (by omega) x y z a1 a2 a3
  · rintro σ H' ⟨rfl, ⟨u, rfl⟩, hno⟩
    have hmid : Tn.midJoin ns = none := mid_no fun j x y z a1 a2 a3 => by
      have h3 := (List.getElem?_eq_some_iff.mp a3).1
      exact hno j (by omega) x y z a1 a2 a3
    have same : Tn.headJoin ns = none → WSs (cxOf CX0 P w K mg base N_sh "_shorter" (defScope s_sh) f cdv A outer s H E).nox ((defBody s_sh).drop 3) { nx := fun _ H' => Q .non H', rt := Q } [some (.ref a), some (.ref S), u, none] H' := by
      intro hh
      refine s_one (s_ret ?_)
      walk_at "E"
      refine k a _ g1' (.inl rfl) ?_
      have e : Tn.shorter ns = ns := by unfold Tn.shorter; rw [hmid, hh]
      rw [e]
      exact ha1
    refine s_cons (s_if (t_wb (b_and (t_cmp op_gt (h := e_blt call_len_seq ml PySem.boot_len ?_)))))
    walk_at "E"
    refine ⟨_, _, rfl, .inl (SqL.of ha1), ?_⟩
    walk_at "E"
    rw [List.length_map]
    refine ⟨_, _, rfl, rfl, _, rfl, ifd (fun c => ?_) fun c => iff_ rfl (s_nil (same ?_))⟩
    rotate_left
    · match ns, c with
      | [], _ => rfl
      | [_], _ => rfl
      | [_, _], _ => rfl
      | _ :: _ :: _ :: l, c => exact absurd (show (2 : Int) < ((l.length + 3 : Nat) : Int) by omega) c
    obtain ⟨x0, x1, x2, l, rfl⟩ : ∃ x0 x1 x2 l, ns = x0 :: x1 :: x2 :: l := by
      match ns, c with
      | x0 :: x1 :: x2 :: l, _ => exact ⟨_, _, _, _, rfl⟩
      | [], c => exact absurd c (by decide)
      | [_], c => exact absurd (show (2 : Int) < 1 from c) (by decide)
      | [_, _], c => exact absurd (show (2 : Int) < 2 from c) (by decide)
    · have i0 := szat (i := 0) (x := x0) rfl
      have i1 := szat (i := 1) (x := x1) rfl
      have i2 := szat (i := 2) (x := x2) rfl
      refine b_and1 (t_chain op_lt op_le (h := e_ixL (h := ?_)))
      walk_at "E"
      refine ⟨S, _, _, _, rfl, rfl, SqL.of e1, at_of (j := 0) rfl i0, ?_⟩
      refine e_ixL (h := ?_)
      walk_at "E"
      refine ⟨S, _, _, _, rfl, rfl, SqL.of e1, at_of (j := 1) rfl i1, ?_⟩
      refine ⟨_, _, rfl, rfl, _, rfl, ?_⟩
      by_cases c1 : (x0.natAbs : Int) < x1.natAbs
      · refine ift (decide_eq_true c1) ?_
        refine e_ixL (h := ?_)
        walk_at "E"
        refine ⟨S, _, _, _, rfl, rfl, SqL.of e1, at_of (j := 2) rfl i2, ?_⟩
        refine ⟨_, _, rfl, rfl, _, rfl, ifd (fun c2 => ?_) fun c2 => s_nil (same ?_)⟩
        rotate_left
        · rw [Tn.headJoin_c, if_neg (by omega)]
        have hs : Tn.shorter (x0 :: x1 :: x2 :: l) = (x0 + x1) :: x2 :: l := by
          unfold Tn.shorter
          rw [hmid, Tn.headJoin_c, if_pos (by omega)]
        refine s_one (s_ret (e_bin op_cat (h := e_lst (a_cons (h := e_add (h := e_ixL (h := ?_)))))))
        walk_at "E"
        refine ⟨a, _, _, _, rfl, rfl, SqL.of ha1, at_of (j := 0) rfl rfl, ?_⟩
        refine e_ixL (h := ?_)
        walk_at "E"
        refine ⟨a, _, _, _, rfl, rfl, SqL.of ha1, at_of (j := 1) rfl rfl, ?_⟩
        refine ⟨_, _, rfl, rfl, a_nil ⟨by show 1 ≤ sizeLine; decide, fun p hp => ?_⟩⟩
        have ha2 : (upd H' p (.lst [.int (x0 + x1)])) a = some (.lst ((x0 :: x1 :: x2 :: l).map V.int)) := by rw [upd_ne (ne_of_none ha1 hp)]; exact ha1
        have g2 := g1'.own (o := .lst [.int (x0 + x1)]) hp
        refine e_slice (h := ?_)
        walk_at "E"
        refine o_some ?_
        walk_at "E"
        refine ⟨_, rfl, o_none ⟨a, _, rfl, SqL.of ha2, fun z hz => ?_⟩⟩
        have e2 := cut_from (ns := x0 :: x1 :: x2 :: l) (k := 2) (by simp)
        have e2' : cutV ((x0 :: x1 :: x2 :: l).map V.int) (some 2) none = (x2 :: l).map V.int := e2
        rw [e2']
        have g3 := g2.own (o := .lst ((x2 :: l).map V.int)) hz
        refine ⟨p, z, _, _, rfl, rfl, by rw [upd_ne (ne_of_none upd_same hz)]; exact upd_same, upd_same, Nat.le_trans (by simp only [List.length_cons, List.length_nil, List.length_map] at hlen ⊢; omega : _ ≤ 101) (by decide), fun D hD => ?_⟩
        refine k D _ (g3.own hD) (.inr (g3.free hD)) ?_
        rw [upd_same, hs]
        rfl
      · refine iff_ (decide_eq_false c1) ⟨_, rfl, iff_ rfl (s_nil (same ?_))⟩
        rw [Tn.headJoin_c, if_neg (by omega)]

/-! short_form, is_short, turns_alike -/
def lenF (H : Hp) (F : Addr) : Nat := match H F with | some (.lst xs) => xs.length + 1 | _ => 0
theorem lenF_of {H : Hp} {F : Addr} {ns : List Int} (h : H F = some (.lst (ns.map V.int))) : lenF H F = ns.length + 1 := by
  unfold lenF
  rw [h]
  show (ns.map V.int).length + 1 = _
  rw [List.length_map]
def muF (σ : L2.St) (H : Hp) : Nat := match σ with | [_, some (.ref F), some (.bl go), _] => if go = true then lenF H F else 0 | _ => 0
theorem muF_of {v : V} {F : Addr} {go : Bool} {u : Option V} {H : Hp} : muF [some v, some (.ref F), some (.bl go), u] H = if go = true then lenF H F else 0 := rfl
theorem sc_sf : FnScope ["turns", "form", "going", "shorter"] ["turns"] (defScope s_sf) := ⟨rfl, rfl, rfl, by decide +kernel, rfl, by decide +kernel, by decide +kernel⟩
theorem ok_sf (ml : mg "len" = none) (e1 : Cal P w K mg base "_summed" 1 ["turns"] (sp_su K)) (e2 : Cal P w K mg base "_shorter" 1 ["form"] sp_sh) : ∀ f fd, Fun K "short_form" "short_form" s_sf f fd → FnOk P w K mg base CX0 2 f fd ["turns"] (fun vs H Q _ => ∃ (B : Hp) (v : V) (ts : List Int), vs = [v] ∧ Ex B H ∧ Dt K B v ts ∧ Small ts ∧ ∀ D H', Gr M0 B H B H' → H D = none → H' D = some (.lst ((Tn.short ts).map V.int)) → Q (.ref D) H') := by
  refine ok_of sc_sf (fun vs H Q E h => by obtain ⟨_, _, _, rfl, _⟩ := h; rfl) (fun f cdv A outer s H vs Q E hr h => ?_)
  obtain ⟨B, v, ts, rfl, kB, hd, hsm, k⟩ := h
  refine s_cons (s_set 1 sc_sf.nd (h := e_call e1 hr (h := ?_)))
  walk_at "E"
  refine ⟨B, v, ts, rfl, kB, hd, hsm, fun F H1 g1 hF eF => ?_⟩
  refine s_cons (s_set 2 sc_sf.nd (h := ?_))
  walk_at "E"
  refine s_cons (s_while (fun σ H' => ∃ (F : Addr) (ns : List Int) (go : Bool) (u : Option V), σ = [some v, some (.ref F), some (.bl go), u] ∧ Gr M0 B H B H' ∧ H F = none ∧ H' F = some (.lst (ns.map V.int)) ∧ ns.length ≤ 100 ∧ (if go = true then Tn.shortL ns = Tn.short ts else ns = Tn.short ts))
    muF ⟨F, Tn.summed ts, true, none, rfl, g1, hF, eF, Nat.le_trans (Tn.summed_len ts) hsm.1, rfl⟩ ?_)
  rintro σ H' ⟨F, ns, go, u, rfl, g, hF, eF, hl, hs⟩
  refine t_tru (h := ?_)
  walk_at "E"
  refine ⟨go, rfl, ?_⟩
  cases go with
  | false =>
    refine iff_ rfl ?_
    rw [if_neg (by decide)] at hs
    subst hs
    refine s_one (s_ret ?_)
    walk_at "E"
    exact k F H' g hF eF
  | true =>
    rw [if_pos rfl] at hs
    refine ift rfl ?_
    refine s_cons (s_set 3 sc_sf.nd (h := e_call e2 hr (h := ?_)))
    walk_at "E"
    refine ⟨B, F, ns, rfl, g.k, eF, hl, fun D H2 g2 hD eD => ?_⟩
    have g3 := g.trans g2
    have hD0 : H D = none := by
      rcases hD with rfl | hD
      · exact hF
      · exact g.free hD
    have eF2 : H2 F = some (.lst (ns.map V.int)) := g2.ex _ _ eF
    refine s_cons (s_set 2 sc_sf.nd (h := e_cmp op_lt (h := e_blt call_len_seq ml PySem.boot_len ?_)))
    walk_at "E"
    refine ⟨_, _, rfl, .inl (SqL.of eD), ?_⟩
    refine e_blt call_len_seq ml PySem.boot_len ?_
    walk_at "E"
    refine ⟨_, _, rfl, .inl (SqL.of eF2), ?_⟩
    refine ⟨_, _, rfl, rfl, ?_⟩
    rw [List.length_map, List.length_map]
    refine s_one (s_set 1 sc_sf.nd (h := ?_))
    walk_at "E"
    have hle : (Tn.shorter ns).length ≤ ns.length := by
      rcases Tn.shorter_or ns with h | h
      · omega
      · rw [h]; exact Nat.le_refl _
    refine ⟨⟨D, Tn.shorter ns, decide (((Tn.shorter ns).length : Int) < (ns.length : Int)), _, rfl, g3, hD0, eD, by omega, ?_⟩, ?_⟩
    · by_cases c : (Tn.shorter ns).length < ns.length
      · rw [decide_eq_true (by omega : ((Tn.shorter ns).length : Int) < (ns.length : Int)), if_pos rfl, ← Tn.shortL_lt c]
        exact hs
      · rw [decide_eq_false (by omega : ¬ ((Tn.shorter ns).length : Int) < (ns.length : Int)), if_neg (by decide), ← hs, Tn.shortL_ge c]
        exact (Tn.shorter_or ns).resolve_left c
    · show muF [some v, some (.ref D), some (.bl (decide (((Tn.shorter ns).length : Int) < (ns.length : Int)))), some (.ref D)] H2 < muF [some v, some (.ref F), some (.bl true), u] H'
      rw [muF_of, muF_of, if_pos rfl, lenF_of eF, lenF_of eD]
      split
      · rename_i c
        have := of_decide_eq_true c
        omega
      · omega
def sp_sf (K : PySem.W.Frag) : Sp := fun vs H Q _ => ∃ (B : Hp) (v : V) (ts : List Int), vs = [v] ∧ Ex B H ∧ Dt K B v ts ∧ Small ts ∧ ∀ D H', Gr M0 B H B H' → H D = none → H' D = some (.lst ((Tn.short ts).map V.int)) → Q (.ref D) H'
theorem sc_is : FnScope ["turns"] ["turns"] (defScope s_is) := ⟨rfl, rfl, rfl, by decide +kernel, rfl, by decide +kernel, by decide +kernel⟩
def sp_is (K : PySem.W.Frag) : Sp := fun vs H Q _ => ∃ (B : Hp) (v : V) (ts : List Int), vs = [v] ∧ Ex B H ∧ Dt K B v ts ∧ Small ts ∧ ∀ H', Gr M0 B H B H' → Q (.bl (decide (Tn.short ts = ts))) H'
theorem ok_is (e1 : Cal P w K mg base "short_form" 2 ["turns"] (sp_sf K)) : ∀ f fd, Fun K "is_short" "is_short" s_is f fd → FnOk P w K mg base CX0 3 f fd ["turns"] (sp_is K) := by
  refine ok_of sc_is (fun vs H Q E h => by obtain ⟨_, _, _, rfl, _⟩ := h; rfl) (fun f cdv A outer s H vs Q E hr h => ?_)
  obtain ⟨B, v, ts, rfl, kB, hd, hsm, k⟩ := h
  refine s_one (s_ret (e_cmp (op_eqD hr.units) (h := e_call e1 hr (h := ?_))))
  walk_at "E"
  refine ⟨B, v, ts, rfl, kB, hd, hsm, fun D H' g hD eD => ?_⟩
  walk_at "E"
  exact eq_dat (B := H') (dtL (SqL.of eD) das_ints) (hd.mono g.k) (Ex.refl _) (by decide) (k H' g)
theorem sc_al : FnScope ["one", "other"] ["one", "other"] (defScope s_al) := ⟨rfl, rfl, rfl, by decide +kernel, rfl, by decide +kernel, by decide +kernel⟩
def sp_al (K : PySem.W.Frag) : Sp := fun vs H Q _ => ∃ (B : Hp) (v v2 : V) (ts us : List Int), vs = [v, v2] ∧ Ex B H ∧ Dt K B v ts ∧ Dt K B v2 us ∧ Small ts ∧ Small us ∧ ∀ H', Gr M0 B H B H' → Q (.bl (decide (Tn.short ts = Tn.short us))) H'
theorem ok_al (e1 : Cal P w K mg base "short_form" 2 ["turns"] (sp_sf K)) : ∀ f fd, Fun K "turns_alike" "turns_alike" s_al f fd → FnOk P w K mg base CX0 3 f fd ["one", "other"] (sp_al K) := by
  refine ok_of sc_al (fun vs H Q E h => by obtain ⟨_, _, _, _, _, rfl, _⟩ := h; rfl) (fun f cdv A outer s H vs Q E hr h => ?_)
  obtain ⟨B, v, v2, ts, us, rfl, kB, hd, hd2, hsm, hsm2, k⟩ := h
  refine s_one (s_ret (e_cmp (op_eqD hr.units) (h := e_call e1 hr (h := ?_))))
  walk_at "E"
  refine ⟨B, v, ts, rfl, kB, hd, hsm, fun D H1 g hD eD => ?_⟩
  refine e_call e1 hr (h := ?_)
  walk_at "E"
  refine ⟨B, v2, us, rfl, g.k, hd2, hsm2, fun D2 H2 g2 hD2 eD2 => ?_⟩
  exact eq_dat (B := H2) (dtL (SqL.of (g2.ex _ _ eD)) das_ints) (dtL (SqL.of eD2) das_ints) (Ex.refl _) (by decide) (k H2 (g.trans g2))
end
end K37
namespace K37
open PySem L2 Evl Lw
/-! ### a jug of three ints, with what may still be poured -/
structure JAt (H : Hp) (d : Addr) (n : Nat) : Prop where
  ex : ∃ x y z : Int, H d = some (dk x y z) ∧ y.natAbs < 2 ^ 150 ∧ 0 ≤ z ∧ z + n ≤ 1000000
theorem JAt.nn {H : Hp} {d : Addr} {n : Nat} (h : JAt H d n) : H d ≠ none := by
  obtain ⟨x, y, z, e, _⟩ := h.ex
  rw [e]
  exact fun z => nomatch z
theorem JAt.exx {H H' : Hp} {d : Addr} {n : Nat} (h : JAt H d n) (e : Ex H H') : JAt H' d n := by
  obtain ⟨x, y, z, q, r⟩ := h.ex
  exact ⟨x, y, z, e _ _ q, r⟩
theorem JAt.le {H : Hp} {d : Addr} {n m : Nat} (h : JAt H d n) (l : m ≤ n) : JAt H d m := by
  obtain ⟨x, y, z, q, r1, r2, r3⟩ := h.ex
  exact ⟨x, y, z, q, r1, r2, by omega⟩
theorem JAt.ne {H : Hp} {d D : Addr} {n : Nat} (h : JAt H d n) (e : H D = none) : d ≠ D := fun z => h.nn (z ▸ e)
structure Jk (B H : Hp) (d : Addr) (n : Nat) : Prop where
  k : Ex B H
  b : B d = none
  at_ : JAt H d n
theorem Jk.gr {B H B' H' : Hp} {d : Addr} {n : Nat} (h : Jk B H d n) (g : Gr M0 B H B' H') : Jk B' H' d n := ⟨g.k, g.f d h.b h.at_.nn, h.at_.exx g.ex⟩
theorem Jk.go {B H B' H' : Hp} {d : Addr} {n m : Nat} (h : Jk B H d n) (g : Gr (Md d) B H B' H') (a : JAt H' d m) : Jk B' H' d m := ⟨g.k, g.f d h.b h.at_.nn, a⟩
theorem Jk.own {B H : Hp} {d p : Addr} {n : Nat} {o : HO} (k : Jk B H d n) (hp : H p = none) : Jk B (upd H p o) d n := k.gr ((Gr.refl k.k).own hp)
theorem Jk.new {B H : Hp} {d p : Addr} {n : Nat} {o : HO} (k : Jk B H d n) (hp : H p = none) : Jk (upd B p o) (upd H p o) d n := k.gr ((Gr.refl k.k).new hp)
theorem Jk.le {B H : Hp} {d : Addr} {n m : Nat} (k : Jk B H d n) (l : m ≤ n) : Jk B H d m := ⟨k.k, k.b, k.at_.le l⟩
section
variable {J : It} {n m : Nat} {G : Hp → Prop} {Y : Nat → Hp → V → Hp → Prop} {B H1 : Hp} {g : TG} {tt : TT} {te : TE} {vs : List Nat} {σ : L2.St} {D d : Addr} {Qd : Hp → Prop}
/-- ints that are poured, c at most for each -/
theorem lcPour (c : Nat) (w : Walk J n G Y) (P : Int → Prop) (k : Jk B H1 d (m + c * n)) (hD : H1 D = none) (hn : n < sizeLine)
    (hG : ∀ B' H' q, Gr (Md d) B H1 B' H' → Jk B' H' d q → G H')
    (hs : ∀ i q x B' H' H'', i < n → Gr (Md d) B H1 B' H' → Jk B' H' d (q + c) → Y i H' x H'' → ∀ (KT : VK) (KF : Hp → Prop), (∀ z B4 H4, Gr (Md d) B' H' B4 H4 → Jk B4 H4 d q → P z → KT (.int z) H4) →
      g x (wipe σ vs) H'' fun σ2 H2 => wipe σ2 vs = wipe σ vs ∧ tt σ2 H2 fun b H3 => if b = true then te σ2 H3 KT else KF H3)
    (hd : ∀ B' H' (ns : List Int), Gr (Md d) B H1 B' H' → Jk B' H' d m → B' D = none → H' D = some (.lst (ns.map V.int)) → ns.length = n → (∀ z ∈ ns, P z) → Qd H') : tLcR J g tt te vs σ H1 D Qd := by
  have hdD : d ≠ D := k.at_.ne hD
  refine lcB (M := Md d) w (fun i B' H' acc => Jk B' H' d (m + c * (n - i)) ∧ ∃ ns : List Int, acc = ns.map V.int ∧ ns.length = i ∧ ∀ z ∈ ns, P z) k.k hD (fun z => hdD z.symm) ⟨k, [], rfl, rfl, fun z hz => nomatch hz⟩ (fun i B' H' acc l hb ⟨⟨k1, k2, k3⟩, s⟩ => ⟨⟨fun a u e => by rw [upd_ne (ne_of_none e hb)]; exact k1 a u e, k2, ?_⟩, s⟩) (fun i B' H' acc _ g s => hG B' H' _ g s.1) ?_ ?_
  · obtain ⟨x, y, z, e, r⟩ := k3.ex
    exact ⟨x, y, z, by rw [upd_ne hdD]; exact e, r⟩
  · intro i x B' H' H'' acc hi g b e s y KT KF kt kf
    obtain ⟨dk', ns, rfl, hl, hp⟩ := s
    have eq : m + c * (n - i) = (m + c * (n - (i + 1))) + c := by
      rw [show n - i = (n - (i + 1)) + 1 by omega, Nat.mul_add, Nat.mul_one]
      omega
    rw [eq] at dk'
    refine hs i _ x B' H' H'' hi g dk' y KT KF fun z B4 H4 g4 d4 pz => kt _ B4 H4 g4 (by rw [List.length_map]; omega) ⟨d4, ns ++ [z], by rw [List.map_append]; rfl, by rw [List.length_append, hl]; rfl, fun q hq => ?_⟩
    rcases List.mem_append.mp hq with h | h
    · exact hp q h
    · rw [List.mem_singleton.mp h]; exact pz
  · intro B' H' acc g b e s
    obtain ⟨dk', ns, rfl, hl, hp⟩ := s
    exact hd B' H' ns g (dk'.le (Nat.le_add_right _ _)) b e hl hp
end
section
variable {P : Program} {w : World} {K : PySem.W.Frag} {mg : Str → Option Value} {base : Heap} {C : Addr}
/-! _law_jug -/
theorem sc_jug : FnScope ["_law_script", "_law_k", "_law_cell"] ["_law_script", "_law_k"] (defScope s_jug) := ⟨rfl, rfl, rfl, by decide +kernel, rfl, by decide +kernel, by decide +kernel⟩
def sp_jug (K : PySem.W.Frag) : Sp := fun vs H Q _ => ∃ (a : Addr) (ns : List Int) (i : Nat), vs = [.ref a, .int (i : Nat)] ∧ SqL K H a (ns.map V.int) ∧ i ≤ 100 ∧ ∀ p x y z, H p = none → JAt (upd H p (dk x y z)) p 900000 → Q (.ref p) (upd H p (dk x y z))
theorem ok_jug (ml : mg "len" = none) (mm : mg "max" = none) : ∀ f fd, Fun K "_law_jug" "_law_jug" s_jug f fd → FnOk P w K mg base CX0 1 f fd ["_law_script", "_law_k"] (sp_jug K) := by
  refine ok_of sc_jug (fun vs H Q E h => by obtain ⟨_, _, _, rfl, _⟩ := h; rfl) (fun f cdv A outer s H vs Q E hr h => ?_)
  obtain ⟨a, ns, i, rfl, hL, hi, k⟩ := h
  have fin : ∀ c : Int, WSs (cxOf CX0 P w K mg base ["_law_script", "_law_k", "_law_cell"] "_law_jug" (defScope s_jug) f cdv A outer s H E).nox ((defBody s_jug).drop 1) { nx := fun _ H' => Q .non H', rt := Q } [some (.ref a), some (.int (i : Nat)), some (.int c)] H := by
    intro c
    refine s_one (s_ret (e_lst (a_cons (h := e_blt (call_max2 rfl) mm (by decide +kernel) (a_cons (h := e_int (a_cons (h := e_sub (h := ?_)))))))))
    walk_at "E"
    refine e_pow (h := ?_)
    walk_at "E"
    refine ⟨_, _, rfl, rfl, ⟨by decide, by decide, by decide⟩, ?_⟩
    walk_at "ii"
    walk_at "E"
    refine ⟨_, _, rfl, ?_⟩
    refine a_cons (h := e_add (h := e_add (h := e_bin op_mul (h := e_mod (h := ?_)))))
    walk_at "E"
    refine e_add (h := e_pow (h := ?_))
    walk_at "E"
    refine ⟨_, _, rfl, rfl, ⟨by decide, by decide, by decide⟩, ?_⟩
    walk_at "E"
    walk_at "ii"
    refine ⟨_, _, rfl, rfl, by decide, ?_⟩
    walk_at "E"
    refine ⟨_, _, rfl, rfl, .inr (by decide), ?_⟩
    refine e_bin op_mul (h := ?_)
    walk_at "E"
    refine ⟨_, _, rfl, rfl, .inl (by decide), ?_⟩
    walk_at "ii"
    walk_at "E"
    walk_at "ii"
    walk_at "E"
    refine ⟨by show 3 ≤ sizeLine; decide, fun p hp => k p _ _ _ hp ⟨_, _, _, upd_same, ?_, by decide, by decide⟩⟩
    have e1 : (10 : Int) ^ (39 : Int).toNat + 3 = 1000000000000000000000000000000000000003 := by decide
    rw [e1]
    have e2 : (2 : Nat) ^ 150 = 1427247692705959881058285969449495136382746624 := by decide
    rw [e2]
    have h1 := Int.emod_nonneg c (b := 1000000000000000000000000000000000000003) (by decide)
    have h2 := Int.emod_lt_of_pos c (b := 1000000000000000000000000000000000000003) (by decide)
    omega
  refine s_cons (s_set 2 sc_jug.nd (h := e_if (t_cmp op_lt (h := ?_))))
  walk_at "E"
  refine e_blt call_len_seq ml PySem.boot_len ?_
  walk_at "E"
  refine ⟨_, _, rfl, .inl hL, _, _, rfl, rfl, _, rfl, ifd (fun h => ?_) fun _ => ?_⟩
  · rw [List.length_map] at h
    refine e_ixL (h := ?_)
    walk_at "E"
    have e : ns[i]? = some (ns[i]'(by omega)) := List.getElem?_eq_getElem (by omega)
    exact ⟨_, _, _, _, rfl, rfl, hL, at_of rfl (by rw [List.getElem?_map, e]; rfl), fin _⟩
  · walk_at "E"
    exact fin _
/-! _law_pour -/
theorem sc_pour : FnScope ["_law_jug_here", "_law_many", "_law_found", "_law_mixed"] ["_law_jug_here", "_law_many"] (defScope s_pour) := ⟨rfl, rfl, rfl, by decide +kernel, rfl, by decide +kernel, by decide +kernel⟩
def sp_pour : Sp := fun vs H Q _ => ∃ (d : Addr) (m : Int) (n : Nat), vs = [.ref d, .int m] ∧ JAt H d (n + 1) ∧ 0 < m ∧ m.natAbs < 2 ^ 250 ∧ ∀ r x y z, 0 ≤ r → r < m → JAt (upd H d (dk x y z)) d n → Q (.int r) (upd H d (dk x y z))
theorem ok_pour (mi : mg "int" = none) : ∀ f fd, Fun K "_law_pour" "_law_pour" s_pour f fd → FnOk P w K mg base CX0 1 f fd ["_law_jug_here", "_law_many"] sp_pour := by
  refine ok_of sc_pour (fun vs H Q E h => by obtain ⟨_, _, _, rfl, _⟩ := h; rfl) (fun f cdv A outer s H vs Q E hr h => ?_)
  obtain ⟨d, m, n, rfl, hj, hm, hm2, k⟩ := h
  obtain ⟨x, y, z, hd, hy, hz0, hz⟩ := hj.ex
  have g0 : ∀ {H' : Hp} {x y z : Int} (h : H' d = some (dk x y z)), SqL K H' d [.int x, .int y, .int z] := fun h => SqL.of h
  have cd : CDivW x m := wide_div hm hm2 (by decide) (by decide)
  refine s_cons (s_if (t_cmp op_gt (h := e_ixL (h := ?_))))
  walk_at "E"
  refine ⟨_, _, _, _, rfl, rfl, g0 hd, rfl, ?_⟩
  walk_at "E"
  refine ⟨_, _, rfl, rfl, _, rfl, ifd (fun h => ?_) fun _ => s_nil ?_⟩
  · refine s_cons (s_set 2 sc_pour.nd (h := e_mod (h := e_ty call_int1 mi (by decide +kernel) (a_cons (h := e_ixL (h := ?_))))))
    walk_at "E"
    refine ⟨_, _, _, _, rfl, rfl, g0 hd, rfl, ?_⟩
    walk_at "E"
    refine .inl ⟨_, rfl, ?_⟩
    walk_at "E"
    refine ⟨_, _, rfl, rfl, hm, ?_⟩
    refine s_cons (s_sub (h := e_fdiv (h := e_ixL (h := ?_))))
    walk_at "E"
    refine ⟨_, _, _, _, rfl, rfl, g0 hd, rfl, ?_⟩
    walk_at "E"
    refine ⟨_, _, rfl, rfl, cd, ?_⟩
    walk_at "E"
    refine ⟨_, _, _, 0, rfl, rfl, hd, rfl, ?_⟩
    refine s_one (s_ret ?_)
    walk_at "E"
    exact k _ (x / m) y z (Int.emod_nonneg _ (by omega)) (Int.emod_lt_of_pos _ hm) ⟨_, _, _, upd_same, hy, hz0, by omega⟩
  · refine s_cons (s_sub (h := e_add (h := e_ixL (h := ?_))))
    walk_at "E"
    refine ⟨_, _, _, _, rfl, rfl, g0 hd, rfl, ?_⟩
    walk_at "E"
    walk_at "ii"
    walk_at "E"
    refine ⟨_, _, _, 2, rfl, rfl, hd, rfl, ?_⟩
    have h2 : (upd H d (.lst ([V.int x, .int y, .int z].set 2 (.int (z + 1))))) d = some (dk x y (z + 1)) := upd_same
    have e2 : (2 : Nat) ^ 150 = 1427247692705959881058285969449495136382746624 := by decide
    rw [e2] at hy
    refine s_cons (s_set 3 sc_pour.nd (h := e_mod (h := e_ty call_int1 mi (by decide +kernel) (a_cons (h := e_powW (h := e_add (h := e_ixL (h := ?_))))))))
    walk_at "E"
    refine ⟨_, _, _, _, rfl, rfl, g0 h2, rfl, ?_⟩
    refine e_bin op_mul (h := ?_)
    walk_at "E"
    refine e_ixL (h := ?_)
    walk_at "E"
    refine ⟨_, _, _, _, rfl, rfl, g0 h2, rfl, ?_⟩
    refine ⟨_, _, rfl, rfl, .inl (by decide), ?_⟩
    walk_at "ii"
    walk_at "E"
    refine ⟨_, _, rfl, rfl, powW_of (n := 160) ?_ (by decide) (by decide), ?_⟩
    · have e3 : (2 : Nat) ^ 160 = 1461501637330902918203684832716283019655932542976 := by decide
      rw [e3]
      omega
    walk_at "E"
    refine .inl ⟨_, rfl, ?_⟩
    refine e_add (h := e_pow (h := ?_))
    walk_at "E"
    refine ⟨_, _, rfl, rfl, ⟨by decide, by decide, by decide⟩, ?_⟩
    walk_at "E"
    walk_at "ii"
    refine ⟨_, _, rfl, rfl, by decide, ?_⟩
    generalize hq : (y + 24036583 * (z + 1)) ^ (3 : Int).toNat % (10 ^ (42 : Int).toNat + 63) = q1
    have b1 : q1.natAbs < 2 ^ 145 := by
      have a1 := Int.emod_nonneg ((y + 24036583 * (z + 1)) ^ (3 : Int).toNat) (b := 10 ^ (42 : Int).toNat + 63) (by decide)
      have a2 := Int.emod_lt_of_pos ((y + 24036583 * (z + 1)) ^ (3 : Int).toNat) (b := 10 ^ (42 : Int).toNat + 63) (by decide)
      rw [hq] at a1 a2
      have e4 : (10 : Int) ^ (42 : Int).toNat + 63 = 1000000000000000000000000000000000000000063 := by decide
      rw [e4] at a2
      have e5 : (2 : Nat) ^ 145 = 44601490397061246283071436545296723011960832 := by decide
      rw [e5]
      omega
    refine s_cons (s_set 3 sc_pour.nd (h := e_mod (h := e_ty call_int1 mi (by decide +kernel) (a_cons (h := e_powW (h := e_add (h := ?_)))))))
    walk_at "E"
    refine e_bin op_mul (h := ?_)
    walk_at "E"
    refine e_ixL (h := ?_)
    walk_at "E"
    refine ⟨_, _, _, _, rfl, rfl, g0 h2, rfl, ?_⟩
    refine ⟨_, _, rfl, rfl, .inl (by decide), ?_⟩
    walk_at "ii"
    walk_at "E"
    refine ⟨_, _, rfl, rfl, powW_of (n := 160) ?_ (by decide) (by decide), ?_⟩
    · have e3 : (2 : Nat) ^ 160 = 1461501637330902918203684832716283019655932542976 := by decide
      have e5 : (2 : Nat) ^ 145 = 44601490397061246283071436545296723011960832 := by decide
      rw [e5] at b1
      rw [e3]
      omega
    walk_at "E"
    refine .inl ⟨_, rfl, ?_⟩
    refine e_add (h := e_pow (h := ?_))
    walk_at "E"
    refine ⟨_, _, rfl, rfl, ⟨by decide, by decide, by decide⟩, ?_⟩
    walk_at "E"
    walk_at "ii"
    refine ⟨_, _, rfl, rfl, by decide, ?_⟩
    refine s_one (s_ret (e_mod (h := e_fdiv (h := ?_))))
    walk_at "E"
    refine ⟨_, _, rfl, rfl, wide_div (b := 30) (by decide) (by decide) (by decide) (by decide), ?_⟩
    walk_at "E"
    refine ⟨_, _, rfl, rfl, hm, ?_⟩
    exact k _ x y (z + 1) (Int.emod_nonneg _ (by omega)) (Int.emod_lt_of_pos _ hm) ⟨_, _, _, upd_same, by rw [e2]; exact hy, by omega, by omega⟩
theorem pour_k {B H : Hp} {d : Addr} {m : Int} {n : Nat} {Q : VK} (k : Jk B H d (n + 1)) (hm : 0 < m) (hb : m.natAbs < 2 ^ 250) (q : ∀ r H', 0 ≤ r → r < m → Gr (Md d) B H B H' → Jk B H' d n → Q (.int r) H') : sp_pour [.ref d, .int m] H Q E0 :=
  ⟨d, m, n, rfl, k.at_, hm, hb, fun r x y z h0 h1 j =>
    have g := (Gr.refl (M := Md d) k.k).deck (x := x) (y := y) (z := z) k.b
    q r _ h0 h1 g (k.go g j)⟩
/-! _law_turns -/
abbrev N_turns : List Str := ["_law_jug_here", "_law_most", "_law_size", "_law_many", "_law_turn"]
theorem sc_turns : FnScope N_turns ["_law_jug_here", "_law_most", "_law_size"] (defScope s_turns) := ⟨rfl, rfl, rfl, by decide +kernel, rfl, by decide +kernel, by decide +kernel⟩
def sp_turns (K : PySem.W.Frag) : Sp := fun vs H Q _ => ∃ (B : Hp) (d : Addr) (mo si : Int) (n : Nat), vs = [.ref d, .int mo, .int si] ∧ Jk B H d (n + 100) ∧ 0 ≤ mo ∧ mo ≤ 50 ∧ 0 ≤ si ∧ si ≤ 1000 ∧
  ∀ v ts B' H', Gr (Md d) B H B' H' → Jk B' H' d n → Dt K B' v (ts : List Int) → ts.length ≤ 60 → (∀ t ∈ ts, -si ≤ t ∧ t ≤ si) → Q v H'
theorem ok_turns (mr : mg "range" = none) (e1 : Cal P w K mg base "_law_pour" 1 ["_law_jug_here", "_law_many"] sp_pour) : ∀ f fd, Fun K "_law_turns" "_law_turns" s_turns f fd → FnOk P w K mg base CX0 2 f fd ["_law_jug_here", "_law_most", "_law_size"] (sp_turns K) := by
  refine ok_of sc_turns (fun vs H Q E h => by obtain ⟨_, _, _, _, _, rfl, _⟩ := h; rfl) (fun f cdv A outer s H vs Q E hr h => ?_)
  obtain ⟨B, d, mo, si, n, rfl, j0, hm0, hm1, hs0, hs1, k⟩ := h
  have fin : ∀ (c : Nat) (H1 : Hp), c ≤ 60 → Gr (Md d) B H B H1 → Jk B H1 d (n + 2 * 49 - 38) → WSs (cxOf CX0 P w K mg base N_turns "_law_turns" (defScope s_turns) f cdv A outer s H E).nox ((defBody s_turns).drop 1) { nx := fun _ H' => Q .non H', rt := Q } [some (.ref d), some (.int mo), some (.int si), some (.int c), none] H1 := by
    intro c H1 hc g1 j1
    refine s_one (s_ret (e_lc [("_law_turn", 4)] sc_turns.nd (ok := blkOk_by (N := N_turns) (sc := defScope s_turns) (by decide +kernel)) (h := i_rng1 mr (h := ?_))))
    walk_at "E"
    refine ⟨_, rfl, by omega, by omega, fun D hD => lcPour 1 (m := n) walk_range (fun z => -si ≤ z ∧ z ≤ si) (j1.le (by omega)) hD (Nat.lt_of_le_of_lt (by omega : (c : Int).toNat ≤ 60) (by decide)) (fun _ _ _ _ _ => trivial) ?_ ?_⟩
    · rintro i q x B' H' H'' hi g j' ⟨rfl, rfl⟩ KT KF kt s0 H0 C0 cl fp
      refine g_name 4 sc_turns.nd (q := ⟨rfl, ?_⟩)
      intro s0 H0 C0 cl fp
      refine ts_nil (ift rfl ?_)
      intro s0 H0 C0 cl fp
      refine e_sub (h := e_call e1 (hr.mono (by decide)) (h := ?_))
      walk_at "E"
      refine e_add (h := e_bin op_mul (h := ?_))
      walk_at "E"
      refine ⟨_, _, rfl, rfl, .inl (by decide), ?_⟩
      walk_at "E"
      walk_at "ii"
      walk_at "E"
      refine pour_k j' (by omega) (sq_int (n := 3000) (by omega) _ (by decide)) fun r H4 r0 r1 g4 j4 => ?_
      walk_at "E"
      walk_at "ii"
      exact kt _ B' H4 g4 j4 (by omega)
    · intro B2 H2 ts g2 j2 b2 eD hl hp
      have gA : Gr (Md d) B H (upd B2 D (.lst (ts.map V.int))) H2 := (g1.trans g2).learn (g1.free hD) b2 eD
      exact k _ ts _ _ gA (j0.go gA j2.at_) (dtL (SqL.of upd_same) das_ints) (by omega) hp
  refine s_cons (s_set 3 sc_turns.nd (h := e_if (t_cmp op_eq (h := e_call e1 (hr.mono (by decide)) (h := ?_)))))
  walk_at "E"
  refine pour_k (n := n + 99) j0 (by decide) (by decide) fun r H1 r0 r1 g1 j1 => ?_
  walk_at "E"
  refine ⟨rfl, _, rfl, ifd (fun h => ?_) fun h => ?_⟩
  · walk_at "E"
    exact fin 60 H1 (by omega) g1 (j1.le (by omega))
  · refine e_call e1 (hr.mono (by decide)) (h := ?_)
    walk_at "E"
    refine e_add (h := ?_)
    walk_at "E"
    walk_at "ii"
    walk_at "E"
    refine pour_k (n := n + 98) j1 (by omega) (sq_int (n := 3000) (by omega) _ (by decide)) fun r2 H2 r3 r4 g2 j2 => ?_
    obtain ⟨c, rfl⟩ : ∃ c : Nat, r2 = (c : Int) := ⟨r2.toNat, by omega⟩
    exact fin c H2 (by omega) (g1.trans g2) (j2.le (by omega))
end
end K37
namespace K37
open PySem L2 Evl Lw
section
variable {P : Program} {w : World} {K : PySem.W.Frag} {mg : Str → Option Value} {base : Heap}
/-! _law_led -/
theorem sc_led : FnScope ["_law_size", "_law_turns_here", "_law_scroll", "_law_turn"] ["_law_size", "_law_turns_here", "_law_scroll"] (defScope s_led) := ⟨rfl, rfl, rfl, by decide +kernel, rfl, by decide +kernel, by decide +kernel⟩
def sp_led (K : PySem.W.Frag) : Sp := fun vs H Q _ => ∃ (B : Hp) (v : V) (r x : Int) (ts : List Int), vs = [.int r, v, .int x] ∧ Ex B H ∧ Dt K B v ts ∧ Q (.int (Tn.led r ts x)) H
theorem led_next {r x : Int} {ts : List Int} {i : Nat} {t : Int} (h : ts[i]? = some t) : Tn.led r (ts.take (i + 1)) x = Tn.cl r (Tn.led r (ts.take i) x + t) := by
  rw [take_next h, Tn.led_app]
  rfl
theorem ok_led (mm : mg "max" = none) (mn : mg "min" = none) : ∀ f fd, Fun K "_law_led" "_law_led" s_led f fd → FnOk P w K mg base CX0 1 f fd ["_law_size", "_law_turns_here", "_law_scroll"] (sp_led K) := by
  refine ok_of sc_led (fun vs H Q E h => by obtain ⟨_, _, _, _, _, rfl, _⟩ := h; rfl) (fun f cdv A outer s H vs Q E hr h => ?_)
  obtain ⟨B, v, r, x, ts, rfl, kB, hd, k⟩ := h
  obtain ⟨a, vs, rfl, hL, hA⟩ := dt_list hd
  have ei := hA.ints
  subst ei
  refine s_cons (s_for (h := i_list ?_))
  walk_at "E"
  refine ⟨_, rfl, ⟨_, ex_l kB hL⟩, for_it walk_list (fun i σ H' => H' = H ∧ ∃ u, σ = [some (.int r), some (.ref a), some (.int (Tn.led r (ts.take i) x)), u]) ⟨rfl, none, rfl⟩ (fun i σ H' _ ⟨e, _⟩ => e ▸ ex_l kB hL) ?_ ?_⟩
  · rintro i y σ H' H'' hi ⟨rfl, u, rfl⟩ ⟨rfl, hx⟩
    rw [List.getElem?_map] at hx
    cases et : ts[i]? with
    | none => rw [et] at hx; cases hx
    | some t =>
      rw [et] at hx
      cases hx
      refine g_name 3 sc_led.nd (q := ?_)
      refine s_one (s_set 2 sc_led.nd (h := e_blt (call_max2 rfl) mm (by decide +kernel) (a_cons (h := e_int (a_cons (h := e_blt (call_min2 rfl) mn (by decide +kernel) (a_cons (h := ?_))))))))
      walk_at "E"
      refine e_add (h := ?_)
      walk_at "E"
      refine ⟨_, _, rfl, rfl, a_nil ⟨_, _, rfl, a_nil ⟨_, _, rfl, ?_⟩⟩⟩
      rw [py_max, py_min, led_next et]
      exact ⟨rfl, _, rfl⟩
  · rintro σ H' ⟨rfl, u, rfl⟩
    rw [List.length_map, List.take_length]
    refine s_one (s_ret ?_)
    walk_at "E"
    exact k

/-! _law_greatest -/
theorem sc_gre : FnScope ["_law_turns_here", "_law_turn"] ["_law_turns_here"] (defScope s_gre) := ⟨rfl, rfl, rfl, by decide +kernel, rfl, by decide +kernel, by decide +kernel⟩
def sp_gre : Sp := fun vs H Q _ => ∃ (B : Hp) (a : Addr) (ts : List Int), vs = [.ref a] ∧ Ex B H ∧ H a = some (.lst (ts.map V.int)) ∧ ts.length ≤ 1000 ∧ ∀ (m : Int) H', Gr M0 B H B H' → 0 ≤ m → (m = 0 ∨ ∃ t ∈ ts, m = ((t.natAbs : Nat) : Int)) → (∀ t ∈ ts, ((t.natAbs : Nat) : Int) ≤ m) → Q (.int m) H'
theorem ok_gre (mm : mg "max" = none) (ma : mg "abs" = none) : ∀ f fd, Fun K "_law_greatest" "_law_greatest" s_gre f fd → FnOk P w K mg base CX0 1 f fd ["_law_turns_here"] sp_gre := by
  refine ok_of sc_gre (fun vs H Q E h => by obtain ⟨_, _, _, rfl, _⟩ := h; rfl) (fun f cdv A outer s H vs Q E hr h => ?_)
  obtain ⟨B, a, ts, rfl, kB, hA, hl, k⟩ := h
  refine s_one (s_ret (e_blt (cr_max rfl) mm (by decide +kernel) (a_cons (h := e_bin op_cat (h := e_lst ?_)))))
  walk_at "E"
  refine ⟨by show 1 ≤ sizeLine; decide, fun p hp => ?_⟩
  have g1 := (Gr.refl (M := M0) kB).own (o := .lst [.int 0]) hp
  have ep : (upd H p (.lst [.int 0])) p = some (.lst [.int 0]) := upd_same
  have eA : (upd H p (.lst [.int 0])) a = some (.lst (ts.map V.int)) := by rw [upd_ne (ne_of_none hA hp)]; exact hA
  generalize upd H p (HO.lst [.int 0]) = H1 at *
  refine e_lc [("_law_turn", 1)] sc_gre.nd (ok := blkOk_by (N := ["_law_turns_here", "_law_turn"]) (sc := defScope s_gre) (by decide +kernel)) (h := i_list ?_)
  walk_at "E"
  refine ⟨_, rfl, ⟨_, SqL.of eA⟩, fun D hD => lcI (K := K) (fun t => some ((t.natAbs : Nat) : Int)) (SqL.of eA) g1.k hD (Nat.lt_of_le_of_lt hl (by decide)) ?_ ?_⟩
  · intro i y B' H' hy g KT KF kt kf s0 H0 C0 cl fp
    refine g_name 1 sc_gre.nd (q := ⟨rfl, ?_⟩)
    intro s0 H0 C0 cl fp
    refine ts_nil (ift rfl ?_)
    intro s0 H0 C0 cl fp
    refine e_blt call_abs ma (by decide +kernel) ?_
    walk_at "E"
    refine ⟨_, rfl, ?_⟩
    rw [py_abs]
    exact kt _ _ B' _ rfl (Gr.refl g.k) (dtI _)
  intro B2 H2 acc g2 b2 e2 d2
  rw [fm_map] at d2
  have ei := d2.ints
  subst ei
  refine ⟨p, D, _, _, rfl, rfl, g2.ex _ _ ep, e2, Nat.le_trans (by simp only [List.length_map, List.length_cons, List.length_nil]; omega : _ ≤ 1001) (by decide), fun q hq => ?_⟩
  have g3 := ((g1.trans (g2.base (Ex.refl B))).own (o := .lst ([V.int 0] ++ (ts.map fun t => ((t.natAbs : Nat) : Int)).map V.int)) hq)
  walk_at "E"
  refine ⟨q, 0 :: ts.map (fun t => ((t.natAbs : Nat) : Int)), rfl, SqL.of (by rw [upd_same]; rfl), Nat.succ_pos _, fun m hm hle => k m _ g3 (hle 0 List.mem_cons_self) ?_ fun t ht => hle _ (List.mem_cons_of_mem _ (List.mem_map.mpr ⟨t, ht, rfl⟩))⟩
  rcases List.mem_cons.mp hm with e | e
  · exact .inl e
  · obtain ⟨t, ht, e⟩ := List.mem_map.mp e
    exact .inr ⟨t, ht, e.symm⟩

/-! _law_same -/
def Same (one other : List Int) (m : Int) : Prop := ∀ r x : Int, 0 ≤ r → r ≤ m → 0 ≤ x → x ≤ r → Tn.led r one x = Tn.led r other x
theorem sc_same : FnScope ["_law_one", "_law_other", "_law_most", "_law_size", "_law_scroll"] ["_law_one", "_law_other", "_law_most"] (defScope s_same) := ⟨rfl, rfl, rfl, by decide +kernel, rfl, by decide +kernel, by decide +kernel⟩
def sp_same (K : PySem.W.Frag) : Sp := fun vs H Q _ => ∃ (B : Hp) (v v2 : V) (one other : List Int) (m : Int), vs = [v, v2, .int m] ∧ Ex B H ∧ Dt K B v one ∧ Dt K B v2 other ∧ 0 ≤ m ∧ m ≤ 1000 ∧ ∀ b : Bool, (b = true ↔ Same one other m) → Q (.bl b) H
theorem ok_same (mr : mg "range" = none) (e1 : Cal P w K mg base "_law_led" 1 ["_law_size", "_law_turns_here", "_law_scroll"] (sp_led K)) : ∀ f fd, Fun K "_law_same" "_law_same" s_same f fd → FnOk P w K mg base CX0 2 f fd ["_law_one", "_law_other", "_law_most"] (sp_same K) := by
  refine ok_of sc_same (fun vs H Q E h => by obtain ⟨_, _, _, _, _, _, rfl, _⟩ := h; rfl) (fun f cdv A outer s H vs Q E hr h => ?_)
  obtain ⟨B, v, v2, one, other, m, rfl, kB, hd, hd2, m0, m1, k⟩ := h
  refine s_cons (s_for (h := i_rng1 mr (h := e_add (h := ?_))))
  walk_at "E"
  refine ⟨_, _, rfl, rfl, _, rfl, by omega, by omega, ?_⟩
  refine for_it walk_r0 (fun i σ H' => H' = H ∧ (∃ u u', σ = [some v, some v2, some (.int m), u, u']) ∧ ∀ r x : Int, 0 ≤ r → r < i → 0 ≤ x → x ≤ r → Tn.led r one x = Tn.led r other x) ⟨rfl, ⟨none, none, rfl⟩, fun r x h0 h1 => by omega⟩ (fun _ _ _ _ _ => trivial) ?_ ?_
  · rintro i y σ H' H'' hi ⟨rfl, ⟨u, u', rfl⟩, hh⟩ ⟨rfl, rfl⟩
    refine g_name 3 sc_same.nd (q := ?_)
    refine s_one (s_for (h := i_rng1 mr (h := e_add (h := ?_))))
    walk_at "E"
    refine ⟨_, _, rfl, rfl, _, rfl, by omega, by omega, ?_⟩
    refine for_it walk_r0 (fun j σ H' => H' = H'' ∧ (∃ u', σ = [some v, some v2, some (.int m), some (.int (i : Nat)), u']) ∧ ∀ x : Int, 0 ≤ x → x < j → Tn.led (i : Nat) one x = Tn.led (i : Nat) other x) ⟨rfl, ⟨_, rfl⟩, fun x h0 h1 => by omega⟩ (fun _ _ _ _ _ => trivial) ?_ ?_
    · rintro j y σ H2 H3 hj ⟨rfl, ⟨u', rfl⟩, hj'⟩ ⟨rfl, rfl⟩
      refine g_name 4 sc_same.nd (q := ?_)
      refine s_one (s_if (t_cmp op_ne (h := e_call e1 hr (h := ?_))))
      walk_at "E"
      refine ⟨B, v, _, _, one, rfl, kB, hd, ?_⟩
      refine e_call e1 hr (h := ?_)
      walk_at "E"
      refine ⟨B, v2, _, _, other, rfl, kB, hd2, ?_⟩
      refine ⟨rfl, _, rfl, ?_⟩
      by_cases c : Tn.led (i : Nat) one (j : Nat) = Tn.led (i : Nat) other (j : Nat)
      · rw [c]
        refine iff_ (by simp) (s_nil ⟨rfl, ⟨_, rfl⟩, fun x h0 h1 => ?_⟩)
        by_cases hx : x = (j : Nat)
        · rw [hx]; exact c
        · exact hj' x h0 (by omega)
      · refine ift (by simp [c]) (s_one (s_ret (e_bl (k false ⟨(fun z => nomatch z), fun z => absurd (z (i : Nat) (j : Nat) (by omega) (by omega) (by omega) (by omega)) c⟩))))
    · rintro σ H2 ⟨rfl, ⟨u', rfl⟩, hj'⟩
      refine ⟨rfl, ⟨_, _, rfl⟩, fun r x h0 h1 h2 h3 => ?_⟩
      by_cases hx : r = (i : Nat)
      · subst hx
        exact hj' x h2 (by omega)
      · exact hh r x h0 (by omega) h2 h3
  · rintro σ H' ⟨rfl, ⟨u, u', rfl⟩, hh⟩
    exact s_one (s_ret (e_bl (k true ⟨fun _ r x h0 h1 h2 h3 => hh r x h0 (by omega) h2 h3, fun _ => rfl⟩)))

/-! _law_is_form -/
theorem dec_get : ∀ {l : List Int} {i : Nat} {a b : Int}, Tn.Dec l → l[i]? = some a → l[i + 1]? = some b → b.natAbs < a.natAbs
  | [], _, _, _, _, h, _ => by simp at h
  | [_], _, _, _, _, _, h => by simp at h
  | x :: y :: l, 0, a, b, k, h1, h2 => by cases h1; cases h2; exact k.2.2.1
  | x :: y :: l, i + 1, a, b, k, h1, h2 => dec_get (l := y :: l) (i := i) k.2.2.2 (by simpa using h1) (by simpa using h2)
theorem alt_get : ∀ {l : List Int} {i : Nat} {a b : Int}, Tn.Alt l → l[i]? = some a → l[i + 1]? = some b → (0 < a ↔ b < 0)
  | [], _, _, _, _, h, _ => by simp at h
  | [_], _, _, _, _, _, h => by simp at h
  | x :: y :: l, 0, a, b, k, h1, h2 => by cases h1; cases h2; exact k.2.1
  | x :: y :: l, i + 1, a, b, k, h1, h2 => alt_get (l := y :: l) (i := i) k.2.2 (by simpa using h1) (by simpa using h2)
theorem alt_nz : ∀ {l : List Int} {a : Int}, Tn.Alt l → a ∈ l → a ≠ 0
  | [], _, _, h => by cases h
  | x :: l, a, k, h => by
    rcases List.mem_cons.mp h with rfl | h
    · exact k.hd
    · exact alt_nz k.tl h
theorem sc_isf : FnScope ["_law_form", "_law_spot", "_law_turn"] ["_law_form"] (defScope s_isf) := ⟨rfl, rfl, rfl, by decide +kernel, rfl, by decide +kernel, by decide +kernel⟩
def sp_isf (K : PySem.W.Frag) : Sp := fun vs H Q _ => ∃ (B : Hp) (v : V) (F : List Int), vs = [v] ∧ Ex B H ∧ Dt K B v F ∧ Tn.NF F ∧ ∀ H', Gr M0 B H B H' → Q (.bl true) H'
theorem ok_isf (me : mg "enumerate" = none) (ma : mg "abs" = none) : ∀ f fd, Fun K "_law_is_form" "_law_is_form" s_isf f fd → FnOk P w K mg base CX0 1 f fd ["_law_form"] (sp_isf K) := by
  refine ok_of sc_isf (fun vs H Q E h => by obtain ⟨_, _, _, rfl, _⟩ := h; rfl) (fun f cdv A outer s H vs Q E hr h => ?_)
  obtain ⟨B, v, F, rfl, kB, hd, hN, k⟩ := h
  obtain ⟨a, vs, rfl, hL, hA⟩ := dt_list hd
  have ei := hA.ints
  subst ei
  refine s_cons (s_for (h := i_enum me (h := ?_)))
  walk_at "E"
  refine ⟨_, _, rfl, ex_l kB hL, for_it walk_enum (fun i σ H' => Gr M0 B H B H' ∧ ∃ u u', σ = [some (.ref a), u, u']) ⟨Gr.refl kB, none, none, rfl⟩ (fun i σ H' _ ⟨g, _⟩ => ex_l g.k hL) ?_ ?_⟩
  · rintro i x σ H' H'' hi ⟨g, u, u', rfl⟩ ⟨T, x, y, rfl, hT, rfl, hx, hy⟩
    cases hx
    have hy : (F.map V.int)[i]? = some y := hy
    rw [List.getElem?_map] at hy
    cases et : F[i]? with
    | none => rw [et] at hy; cases hy
    | some t =>
      rw [et] at hy
      cases hy
      have g1 := g.own (o := .tup [.int (i : Nat), .int t]) hT
      refine g_tup (SqT.of upd_same) rfl (h := gs_cons (h := g_name 1 sc_isf.nd (q := gs_cons (h := g_name 2 sc_isf.nd (q := gs_nil ?_)))))
      show WSs _ _ _ _ (upd H' T (.tup [.int (i : Nat), .int t]))
      generalize upd H' T (HO.tup [V.int (i : Nat), .int t]) = H1 at *
      have t0 : t ≠ 0 := alt_nz hN.1 (List.mem_of_getElem? et)
      refine s_cons (s_if (t_wb (b_or (t_cmp op_eq (h := ?_)))))
      walk_at "E"
      refine ⟨rfl, _, rfl, iff_ (by simp [t0]) ?_⟩
      refine b_or1 (t_wb (b_and (t_cmp op_gt (h := ?_))))
      walk_at "E"
      refine ⟨_, _, rfl, rfl, _, rfl, ?_⟩
      match i, et with
      | 0, et =>
        refine iff_ (by decide) (iff_ rfl (s_nil ?_))
        refine s_one (s_if (t_wb (b_and (t_cmp op_gt (h := ?_)))))
        walk_at "E"
        refine ⟨_, _, rfl, rfl, _, rfl, iff_ (by decide) (iff_ rfl (s_nil ⟨g1, _, _, rfl⟩))⟩
      | i + 1, et =>
        have hi' : i + 1 < F.length := (List.getElem?_eq_some_iff.mp et).1
        have ep : F[i]? = some (F[i]'(by omega)) := List.getElem?_eq_getElem (by omega)
        generalize F[i]'(by omega) = p at *
        have sg := alt_get hN.1 ep et
        have p0 : p ≠ 0 := alt_nz hN.1 (List.mem_of_getElem? ep)
        refine ift (decide_eq_true (by omega)) ?_
        refine b_and1 (t_cmp op_eq (h := e_cmp op_gt (h := ?_)))
        walk_at "E"
        refine ⟨_, _, rfl, rfl, ?_⟩
        refine e_cmp op_gt (h := e_ixL (h := ?_))
        walk_at "E"
        refine e_sub (h := ?_)
        walk_at "E"
        refine ⟨_, _, rfl, rfl, a, _, _, _, rfl, rfl, ex_l g1.k hL, at_of (j := i) (by omega) (at_map ep), ?_⟩
        walk_at "E"
        refine ⟨_, _, rfl, rfl, rfl, _, rfl, ?_⟩
        have hne : ¬ (V.bl (decide (t > 0)) = V.bl (decide (p > 0))) := fun z => by
          have z' := V.bl.inj z
          have := decide_eq_decide.mp z'
          omega
        refine iff_ (decide_eq_false hne) (s_nil ?_)
        refine s_one (s_if (t_wb (b_and (t_cmp op_gt (h := ?_)))))
        walk_at "E"
        refine ⟨_, _, rfl, rfl, _, rfl, ?_⟩
        match i, ep, et with
        | 0, ep, et => exact iff_ (by decide) (iff_ rfl (s_nil ⟨g1, _, _, rfl⟩))
        | j + 1, ep, et =>
          have hlt : t.natAbs < p.natAbs := dec_get (l := F.tail) (i := j) hN.2 (by rw [List.getElem?_tail]; exact ep) (by rw [List.getElem?_tail]; exact et)
          refine ift (decide_eq_true (by omega)) ?_
          refine b_and1 (t_cmp op_ge (h := e_blt call_abs ma (by decide +kernel) ?_))
          walk_at "E"
          refine ⟨_, rfl, ?_⟩
          rw [py_abs]
          refine e_blt call_abs ma (by decide +kernel) (a_cons (h := e_ixL (h := ?_)))
          walk_at "E"
          refine e_sub (h := ?_)
          walk_at "E"
          refine ⟨_, _, rfl, rfl, a, _, _, _, rfl, rfl, ex_l g1.k hL, at_of (j := j + 1) (by omega) (at_map ep), a_nil ⟨_, rfl, ?_⟩⟩
          rw [py_abs]
          refine ⟨_, _, rfl, rfl, _, rfl, iff_ (decide_eq_false (by omega)) (s_nil ⟨g1, _, _, rfl⟩)⟩
  · rintro σ H' ⟨g, u, u', rfl⟩
    exact s_one (s_ret (e_bl (k H' g)))
end
end K37
namespace K37
open PySem L2 Evl Lw
section
variable {P : Program} {w : World} {K : PySem.W.Frag} {mg : Str → Option Value} {base : Heap}
/-! _law_changed -/
abbrev N_chg : List Str := ["_law_jug_here", "_law_turns_here", "_law_found", "_law_turn", "_law_way", "_law_part"]
theorem sc_chg : FnScope N_chg ["_law_jug_here", "_law_turns_here"] (defScope s_chg) := ⟨rfl, rfl, rfl, by decide +kernel, rfl, by decide +kernel, by decide +kernel⟩
def sp_chg (K : PySem.W.Frag) : Sp := fun vs H Q _ => ∃ (B : Hp) (d : Addr) (v : V) (ts : List Int) (n : Nat), vs = [.ref d, v] ∧ Jk B H d (n + 50) ∧ Dt K B v ts ∧ (∀ t ∈ ts, -20 ≤ t ∧ t ≤ 20) ∧
  ∀ v us B' H', Gr (Md d) B H B' H' → Jk B' H' d n → Dt K B' v (us : List Int) → us.length ≤ 60 → (∀ t ∈ us, -50 ≤ t ∧ t ≤ 50) → Q v H'
theorem ok_chg (ml : mg "len" = none) (ma : mg "abs" = none) (e0 : Cal P w K mg base "_law_pour" 1 ["_law_jug_here", "_law_many"] sp_pour) : ∀ f fd, Fun K "_law_changed" "_law_changed" s_chg f fd → FnOk P w K mg base CX0 2 f fd ["_law_jug_here", "_law_turns_here"] (sp_chg K) := by
  refine ok_of sc_chg (fun vs H Q E h => by obtain ⟨_, _, _, _, _, rfl, _⟩ := h; rfl) (fun f cdv A outer s H vs Q E hr h => ?_)
  obtain ⟨B, d, v, ts, n, rfl, j0, hd, hts, k⟩ := h
  obtain ⟨a, vs, rfl, hL, hA⟩ := dt_list hd
  have ei := hA.ints
  subst ei
  refine s_cons (s_set 2 sc_chg.nd (h := e_lst (a_nil ⟨Nat.zero_le _, fun F hF => ?_⟩)))
  have g0 := (Gr.refl (M := Md d) j0.k).own (o := .lst []) hF
  have j1 := j0.own (o := .lst []) hF
  have e0' : (upd H F (.lst [])) F = some (.lst (([] : List Int).map V.int)) := upd_same
  generalize upd H F (HO.lst []) = H0 at *
  refine s_cons (s_for (h := i_list (e_slice (h := ?_))))
  walk_at "E"
  refine o_none (o_some ?_)
  walk_at "E"
  refine ⟨_, rfl, a, _, rfl, ex_l g0.k hL, fun T hT => ?_⟩
  have e20 : cutV (ts.map V.int) none (some 20) = (ts.take 20).map V.int := cut_upto (k := 20)
  rw [e20]
  have g1 := g0.own (o := .lst ((ts.take 20).map V.int)) hT
  have j2 := j1.own (o := .lst ((ts.take 20).map V.int)) hT
  have eF : (upd H0 T (.lst ((ts.take 20).map V.int))) F = some (.lst (([] : List Int).map V.int)) := by rw [upd_ne (ne_of_none e0' hT)]; exact e0'
  have eT : (upd H0 T (.lst ((ts.take 20).map V.int))) T = some (.lst ((ts.take 20).map V.int)) := upd_same
  have hT0 : H T = none := g0.free hT
  have ndT : d ≠ T := fun z => j0.at_.nn (z ▸ hT0)
  have hFT : F ≠ T := ne_of_none e0' hT
  generalize upd H0 T (HO.lst ((ts.take 20).map V.int)) = H1 at *
  refine ⟨_, rfl, ⟨_, SqL.of eT⟩, for_it walk_list (fun i σ H' => ∃ (F : Addr) (fs : List Int) (u1 u2 u3 : Option V), σ = [some (.ref d), some (.ref a), some (.ref F), u1, u2, u3] ∧ Gr (Md d) B H B H' ∧ Jk B H' d (n + 50 - 2 * i) ∧ H F = none ∧ F ≠ T ∧ H' F = some (.lst (fs.map V.int)) ∧ H' T = some (.lst ((ts.take 20).map V.int)) ∧ fs.length ≤ 3 * i ∧ (∀ t ∈ fs, -50 ≤ t ∧ t ≤ 50))
    ⟨F, [], none, none, none, rfl, g1, j2, hF, hFT, eF, eT, Nat.le_refl _, (fun t ht => nomatch ht)⟩ (fun i σ H' _ ⟨_, _, _, _, _, _, _, _, _, _, _, e, _⟩ => SqL.of e) ?_ ?_⟩
  · rintro i x σ H' H'' hi ⟨F, fs, u1, u2, u3, rfl, g, j, hF, hFT, eF, eT, hl, hb⟩ ⟨rfl, hx⟩
    have hi20 : i < 20 := by
      rw [List.length_map, List.length_take] at hi
      omega
    rw [List.getElem?_map] at hx
    cases et : (ts.take 20)[i]? with
    | none => rw [et] at hx; cases hx
    | some t =>
      rw [et] at hx
      cases hx
      have ht := hts t (List.mem_of_mem_take (List.mem_of_getElem? et))
      have ndF : d ≠ F := fun z => j0.at_.nn (z ▸ hF)
      refine g_name 3 sc_chg.nd (q := ?_)
      refine s_cons (s_set 4 sc_chg.nd (h := e_call e0 hr (h := ?_)))
      walk_at "E"
      refine pour_k (n := n + 49 - 2 * i) (by rw [show n + 49 - 2 * i + 1 = n + 50 - 2 * i by omega]; exact j) (by decide) (by decide) fun wy H2 w0 w1 g2 j2 => ?_
      have eF2 := g2.h _ _ (fun z => ndF z.symm) eF
      have eT2 := g2.h _ _ (fun z => ndT z.symm) eT
      refine s_cons (s_set 5 sc_chg.nd (h := e_call e0 hr (h := ?_)))
      walk_at "E"
      refine e_add (h := e_blt call_abs ma (by decide +kernel) ?_)
      walk_at "E"
      refine ⟨_, rfl, ?_⟩
      rw [py_abs]
      walk_at "E"
      refine ⟨_, _, rfl, rfl, ?_⟩
      walk_at "E"
      refine pour_k (n := n + 48 - 2 * i) (by rw [show n + 48 - 2 * i + 1 = n + 49 - 2 * i by omega]; exact j2) (by omega) (sq_int (n := 3000) (by omega) _ (by decide)) fun pt H3 p0 p1 g3 j3 => ?_
      have eF3 := g3.h _ _ (fun z => ndF z.symm) eF2
      have eT3 := g3.h _ _ (fun z => ndT z.symm) eT2
      have gA := (g.trans g2).trans g3
      have jA : Jk B H3 d (n + 50 - 2 * (i + 1)) := j3.le (by omega)
      -- two new lists: what is put behind, and the joined one
      have cat : ∀ {D' : L2.St → Hp → Prop} (zs : List Int) (p : Addr) (H4 : Hp), H3 p = none → H4 = upd H3 p (.lst (zs.map V.int)) → zs.length ≤ 3 → (∀ t ∈ zs, -50 ≤ t ∧ t ≤ 50) →
          (∀ (F' : Addr) (fs' : List Int) (Hz : Hp), Gr (Md d) B H B Hz → Jk B Hz d (n + 50 - 2 * (i + 1)) → H F' = none → F' ≠ T → Hz F' = some (.lst (fs'.map V.int)) → Hz T = some (.lst ((ts.take 20).map V.int)) → fs'.length ≤ 3 * (i + 1) → (∀ t ∈ fs', -50 ≤ t ∧ t ≤ 50) → D' [some (.ref d), some (.ref a), some (.ref F'), some (.int t), some (.int wy), some (.int pt)] Hz) →
          rCat (.ref F) (.ref p) H4 fun v1 H5 => D' [some (.ref d), some (.ref a), some v1, some (.int t), some (.int wy), some (.int pt)] H5 := by
        rintro D' zs p H4 hp rfl hz hzb q
        have eF4 : (upd H3 p (.lst (zs.map V.int))) F = some (.lst (fs.map V.int)) := by rw [upd_ne (ne_of_none eF3 hp)]; exact eF3
        have eT4 : (upd H3 p (.lst (zs.map V.int))) T = some (.lst ((ts.take 20).map V.int)) := by rw [upd_ne (ne_of_none eT3 hp)]; exact eT3
        have g4 := gA.own (o := .lst (zs.map V.int)) hp
        have j4 := jA.own (o := .lst (zs.map V.int)) hp
        refine ⟨F, p, _, _, rfl, rfl, eF4, upd_same, Nat.le_trans (by rw [List.length_map, List.length_map]; omega : _ ≤ 100) (by decide), fun r hr => ?_⟩
        refine q r (fs ++ zs) _ (g4.own hr) (j4.own hr) (g4.free hr) (fun z => by rw [z, eT4] at hr; cases hr) (by rw [upd_same, List.map_append]) (by rw [upd_ne (ne_of_none eT4 hr)]; exact eT4) (by rw [List.length_append]; omega) fun t ht => ?_
        rcases List.mem_append.mp ht with ht | ht
        · exact hb t ht
        · exact hzb t ht
      have fin : ∀ (F' : Addr) (fs' : List Int) (Hz : Hp), Gr (Md d) B H B Hz → Jk B Hz d (n + 50 - 2 * (i + 1)) → H F' = none → F' ≠ T → Hz F' = some (.lst (fs'.map V.int)) → Hz T = some (.lst ((ts.take 20).map V.int)) → fs'.length ≤ 3 * (i + 1) → (∀ t ∈ fs', -50 ≤ t ∧ t ≤ 50) →
          ∃ (F : Addr) (fs : List Int) (u1 u2 u3 : Option V), [some (V.ref d), some (.ref a), some (.ref F'), some (.int t), some (.int wy), some (.int pt)] = [some (.ref d), some (.ref a), some (.ref F), u1, u2, u3] ∧ Gr (Md d) B H B Hz ∧ Jk B Hz d (n + 50 - 2 * (i + 1)) ∧ H F = none ∧ F ≠ T ∧ Hz F = some (.lst (fs.map V.int)) ∧ Hz T = some (.lst ((ts.take 20).map V.int)) ∧ fs.length ≤ 3 * (i + 1) ∧ (∀ t ∈ fs, -50 ≤ t ∧ t ≤ 50) :=
        fun F' fs' Hz a1 a2 a3 a4 a5 a6 a7 a8 => ⟨F', fs', _, _, _, rfl, a1, a2, a3, a4, a5, a6, a7, a8⟩
      have mem2 : ∀ {x y : Int}, -50 ≤ x → x ≤ 50 → -50 ≤ y → y ≤ 50 → ∀ t ∈ [x, y], -50 ≤ t ∧ t ≤ 50 := fun h1 h2 h3 h4 t ht => by
        rcases List.mem_cons.mp ht with rfl | ht
        · exact ⟨h1, h2⟩
        · rw [List.mem_singleton.mp ht]; exact ⟨h3, h4⟩
      have mem3 : ∀ {x y z : Int}, -50 ≤ x → x ≤ 50 → -50 ≤ y → y ≤ 50 → -50 ≤ z → z ≤ 50 → ∀ t ∈ [x, y, z], -50 ≤ t ∧ t ≤ 50 := fun h1 h2 h3 h4 h5 h6 t ht => by
        rcases List.mem_cons.mp ht with rfl | ht
        · exact ⟨h1, h2⟩
        · exact mem2 h3 h4 h5 h6 t ht
      refine s_one (s_if (t_cmp op_eq (h := ?_)))
      walk_at "E"
      refine ⟨rfl, _, rfl, ifd (fun c => ?_) fun c => ?_⟩
      · refine s_one (s_set 2 sc_chg.nd (h := e_if (t_cmp op_gt (h := ?_))))
        walk_at "E"
        refine ⟨_, _, rfl, rfl, _, rfl, ifd (fun c2 => ?_) fun c2 => ?_⟩
        · refine e_bin op_cat (h := ?_)
          walk_at "nm"
          refine e_lst (a_cons (h := ?_))
          walk_at "nm"
          refine a_cons (h := e_sub (h := ?_))
          walk_at "E"
          refine ⟨_, _, rfl, rfl, a_nil ⟨by show 2 ≤ sizeLine; decide, fun p hp => ?_⟩⟩
          exact cat [pt, t - pt] p _ hp rfl (by show 2 ≤ 3; decide) (mem2 (by omega) (by omega) (by omega) (by omega)) fin
        · refine e_bin op_cat (h := ?_)
          walk_at "nm"
          refine e_lst (a_cons (h := e_sub (h := ?_)))
          walk_at "E"
          refine ⟨_, _, rfl, rfl, a_cons (h := e_add (h := ?_))⟩
          walk_at "E"
          refine ⟨_, _, rfl, rfl, a_nil ⟨by show 2 ≤ sizeLine; decide, fun p hp => ?_⟩⟩
          exact cat [0 - pt, t + pt] p _ hp rfl (by show 2 ≤ 3; decide) (mem2 (by omega) (by omega) (by omega) (by omega)) fin
      refine s_one (s_if (t_cmp op_eq (h := ?_)))
      walk_at "E"
      refine ⟨rfl, _, rfl, ifd (fun c => ?_) fun c => ?_⟩
      · refine s_one (s_set 2 sc_chg.nd (h := e_bin op_cat (h := ?_)))
        walk_at "E"
        refine ⟨by show 2 ≤ sizeLine; decide, fun p hp => ?_⟩
        exact cat [t, 0] p _ hp rfl (by show 2 ≤ 3; decide) (mem2 (by omega) (by omega) (by omega) (by omega)) fin
      refine s_one (s_if (t_cmp op_eq (h := ?_)))
      walk_at "E"
      refine ⟨rfl, _, rfl, ifd (fun c => ?_) fun c => ?_⟩
      · refine s_one (s_set 2 sc_chg.nd (h := e_bin op_cat (h := ?_)))
        walk_at "nm"
        refine e_if (t_cmp op_gt (h := ?_))
        walk_at "E"
        refine ⟨_, _, rfl, rfl, _, rfl, ifd (fun c2 => ?_) fun c2 => ?_⟩
        · refine e_lst (a_cons (h := ?_))
          walk_at "nm"
          refine a_cons (h := e_sub (h := ?_))
          walk_at "E"
          refine ⟨_, _, rfl, rfl, a_cons (h := ?_)⟩
          walk_at "E"
          refine ⟨by show 3 ≤ sizeLine; decide, fun p hp => ?_⟩
          exact cat [t, 0 - pt, pt] p _ hp rfl (by show 3 ≤ 3; decide) (mem3 (by omega) (by omega) (by omega) (by omega) (by omega) (by omega)) fin
        · refine e_lst (a_cons (h := ?_))
          walk_at "nm"
          refine a_cons (h := ?_)
          walk_at "nm"
          refine a_cons (h := e_sub (h := ?_))
          walk_at "E"
          refine ⟨_, _, rfl, rfl, a_nil ⟨by show 3 ≤ sizeLine; decide, fun p hp => ?_⟩⟩
          exact cat [t, pt, 0 - pt] p _ hp rfl (by show 3 ≤ 3; decide) (mem3 (by omega) (by omega) (by omega) (by omega) (by omega) (by omega)) fin
      refine s_one (s_expr (h := e_bm PySem.F.plainAttrs_list PySem.F.slot_list_append PySem.F.type_list_append mt_append (h := ?_)))
      walk_at "E"
      refine ⟨.inl ⟨rfl, _, SqL.of eF3⟩, ?_⟩
      walk_at "E"
      refine ⟨F, _, _, rfl, rfl, eF3, Nat.lt_of_le_of_lt (by rw [List.length_map]; omega : _ ≤ 100) (by decide), ?_⟩
      have gm := gA.mut (p := F) (o := .lst (fs.map V.int ++ [.int t])) (.inr hF) (none_of_ex j0.k hF)
      refine fin F (fs ++ [t]) _ gm ⟨gm.k, j0.b, ?_⟩ hF hFT (by rw [upd_same, List.map_append]; rfl) (by rw [upd_ne hFT.symm]; exact eT3) (by rw [List.length_append, List.length_singleton]; omega) fun t' ht' => ?_
      · obtain ⟨x, y, z, e, q⟩ := jA.at_.ex
        exact ⟨x, y, z, by rw [upd_ne ndF]; exact e, q⟩
      · rcases List.mem_append.mp ht' with h | h
        · exact hb t' h
        · rw [List.mem_singleton.mp h]; omega
  rintro σ H' ⟨F, fs, u1, u2, u3, rfl, g, j, hF, hFT, eF, eT, hl, hb⟩
  have ndF : d ≠ F := fun z => j0.at_.nn (z ▸ hF)
  have hl60 : fs.length ≤ 60 := by
    rw [List.length_map, List.length_take] at hl
    omega
  have jn : Jk B H' d (n + 10) := j.le (by rw [List.length_map, List.length_take]; omega)
  have fin : ∀ (fs' : List Int) (Hz : Hp), Gr (Md d) B H B Hz → Jk B Hz d n → Hz F = some (.lst (fs'.map V.int)) → fs'.length ≤ 60 → (∀ t ∈ fs', -50 ≤ t ∧ t ≤ 50) →
      WSs (cxOf CX0 P w K mg base N_chg "_law_changed" (defScope s_chg) f cdv A outer s H E).nox ((defBody s_chg).drop 3) { nx := fun _ H' => Q .non H', rt := Q } [some (.ref d), some (.ref a), some (.ref F), u1, u2, u3] Hz := by
    intro fs' Hz gz jz ez hlz hbz
    refine s_one (s_ret ?_)
    walk_at "E"
    have gl := gz.learn hF (none_of_ex j0.k hF) ez
    exact k _ fs' _ _ gl (j0.go gl jz.at_) (dtL (SqL.of upd_same) das_ints) hlz hbz
  refine s_cons (s_if (t_wb (b_and (t_cmp op_eq (h := e_call e0 hr (h := ?_))))))
  walk_at "E"
  refine pour_k (n := n + 9) jn (by decide) (by decide) fun r H2 r0 r1 g2 j2 => ?_
  have eF2 := g2.h _ _ (fun z => ndF z.symm) eF
  walk_at "E"
  refine ⟨rfl, _, rfl, ifd (fun c => ?_) fun c => iff_ rfl (s_nil (fin fs H2 (g.trans g2) (j2.le (by omega)) eF2 hl60 hb))⟩
  refine b_and1 (t_cmp (op_neD hr.units) (h := ?_))
  walk_at "nm"
  refine e_lst (a_nil ⟨Nat.zero_le _, fun p hp => ?_⟩)
  have g3 := (g.trans g2).own (o := .lst []) hp
  have j3 := j2.own (o := .lst []) hp
  have eF3 : (upd H2 p (.lst [])) F = some (.lst (fs.map V.int)) := by rw [upd_ne (ne_of_none eF2 hp)]; exact eF2
  refine ne_dat (B := upd H2 p (.lst [])) (x := fs) (y := ([] : List Int)) (dtL (SqL.of eF3) das_ints) (dtL (SqL.of (xs := []) upd_same) Das.nil) (Ex.refl _) (by decide) ⟨_, rfl, ifn (fun c2 => ?_) fun c2 => s_nil (fin fs _ g3 (j3.le (by omega)) eF3 hl60 hb)⟩
  generalize upd H2 p (HO.lst []) = H3 at *
  have hpos : 0 < fs.length := by
    cases fs with
    | nil => exact absurd rfl c2
    | cons _ _ => exact Nat.succ_pos _
  refine s_one (s_sub (h := e_sub (h := e_call e0 hr (h := ?_))))
  walk_at "E"
  refine pour_k (n := n + 8) j3 (by decide) (by decide) fun r2 H4 r20 r21 g4 j4 => ?_
  have eF4 := g4.h _ _ (fun z => ndF z.symm) eF3
  walk_at "E"
  refine ⟨_, _, rfl, rfl, ?_⟩
  walk_at "E"
  refine e_call e0 hr (h := ?_)
  walk_at "E"
  refine e_blt call_len_seq ml PySem.boot_len ?_
  walk_at "E"
  refine ⟨_, _, rfl, .inl (SqL.of eF4), ?_⟩
  rw [List.length_map]
  walk_at "E"
  refine pour_k (n := n + 7) j4 (by omega) (sq_int (n := 3000) (by omega) _ (by decide)) fun r3 H5 r30 r31 g5 j5 => ?_
  have eF5 := g5.h _ _ (fun z => ndF z.symm) eF4
  refine ⟨F, _, r3, r3.toNat, rfl, rfl, eF5, ixN_pos r30 (by rw [List.length_map]; exact r31), ?_⟩
  have gA := (g3.trans g4).trans g5
  have gm := gA.mut (p := F) (o := .lst ((fs.map V.int).set r3.toNat (.int (r2 - 3)))) (.inr hF) (none_of_ex j0.k hF)
  refine (fin (fs.set r3.toNat (r2 - 3)) _ gm ⟨gm.k, j0.b, ?_⟩ (by rw [upd_same, List.map_set]) (by rw [List.length_set]; exact hl60) fun t ht => ?_)
  · obtain ⟨x, y, z, e, q⟩ := (j5.at_.le (show n ≤ n + 7 by omega)).ex
    exact ⟨x, y, z, by rw [upd_ne ndF]; exact e, q⟩
  · rcases List.mem_or_eq_of_mem_set ht with h | h
    · exact hb t h
    · rw [h]; omega
end
end K37
namespace K37
open PySem L2 Evl Lw
section
variable {P : Program} {w : World} {K : PySem.W.Frag} {mg : Str → Option Value} {base : Heap}
/-! _law_form_right -/
abbrev N_fr : List Str := ["_law_turns_here", "_law_width", "_law_kept", "_law_form", "_law_turn"]
theorem sc_fr : FnScope N_fr ["_law_turns_here", "_law_width"] (defScope s_fr) := ⟨rfl, rfl, rfl, by decide +kernel, rfl, by decide +kernel, by decide +kernel⟩
def Tiny (ts : List Int) : Prop := ts.length ≤ 60 ∧ ∀ t ∈ ts, -50 ≤ t ∧ t ≤ 50
theorem tiny_small {ts : List Int} (h : Tiny ts) : Small ts := ⟨by have := h.1; omega, fun t ht => by
  have := h.2 t ht
  have e120 : Bd = 1329227995784915872903807060280344576 := by unfold Bd; decide
  rw [e120]
  omega⟩
theorem tiny_sc {ts : List Int} {W : Int} (h : Tiny ts) (h0 : 1 ≤ W) (h1 : W ≤ 20000000000000000000000000000) : Small (ts.map (W * ·)) := ⟨by rw [List.length_map]; have := h.1; omega, fun t ht => by
  obtain ⟨x, hx, rfl⟩ := List.mem_map.mp ht
  have := h.2 x hx
  have e120 : Bd = 1329227995784915872903807060280344576 := by unfold Bd; decide
  rw [e120, Int.natAbs_mul]
  have h2 : W.natAbs * x.natAbs ≤ 20000000000000000000000000000 * 50 := Nat.mul_le_mul (by omega) (by omega)
  omega⟩
/-- the form of such turns has no greater ones than all together -/
def sz (l : List Int) : Nat := (l.map Int.natAbs).sum
theorem sz_cons (a : Int) (l : List Int) : sz (a :: l) = a.natAbs + sz l := rfl
theorem sz_app (a b : List Int) : sz (a ++ b) = sz a + sz b := by unfold sz; rw [List.map_append, List.sum_append]
theorem sz_mem {l : List Int} : ∀ {t : Int}, t ∈ l → t.natAbs ≤ sz l := by
  induction l with
  | nil => intro t h; cases h
  | cons a l ih =>
    intro t h
    rw [sz_cons]
    rcases List.mem_cons.mp h with rfl | h
    · omega
    · have := ih h; omega
theorem sz_le {l : List Int} (b : Nat) (h : ∀ t ∈ l, t.natAbs ≤ b) : sz l ≤ b * l.length := by
  induction l with
  | nil => exact Nat.zero_le _
  | cons a l ih =>
    have h1 := h a List.mem_cons_self
    have h2 := ih fun t ht => h t (List.mem_cons_of_mem _ ht)
    rw [sz_cons, List.length_cons, Nat.mul_add, Nat.mul_one]
    omega
theorem sz_step (acc : List Int) (t : Int) : sz (Tn.stepF acc t) ≤ sz acc + t.natAbs := by
  rcases Tn.snoc_of acc with rfl | ⟨p, z, rfl⟩
  · rw [Tn.stepF_nil]
    split
    · exact Nat.zero_le _
    · rw [sz_cons]; exact Nat.le_of_eq (Nat.add_comm _ _)
  · rw [Tn.stepF_snoc]
    split
    · rw [sz_app, sz_app, sz_cons, sz_cons]
      omega
    · split
      · omega
      · rw [sz_app (p ++ [z]), sz_cons]
        exact Nat.le_refl _
theorem sz_summed (l : List Int) : sz (Tn.summed l) ≤ sz l := by
  have key : ∀ (l acc : List Int), sz (l.foldl Tn.stepF acc) ≤ sz acc + sz l := by
    intro l
    induction l with
    | nil => exact fun acc => Nat.le_refl _
    | cons x l ih =>
      intro acc
      have h1 := ih (Tn.stepF acc x)
      have h2 := sz_step acc x
      rw [List.foldl_cons, sz_cons]
      omega
  have := key l []
  have e : sz [] = 0 := rfl
  rw [e, Nat.zero_add] at this
  exact this
theorem sz_mid : ∀ {l m : List Int}, Tn.midJoin l = some m → sz m ≤ sz l
  | [], _, h => by cases h
  | [_], _, h => by cases h
  | [_, _], _, h => by cases h
  | a :: b :: c :: l, m, h => by
    unfold Tn.midJoin at h
    split at h
    · cases h
      rw [sz_cons, sz_cons, sz_cons, sz_cons]
      omega
    · cases e : Tn.midJoin (b :: c :: l) with
      | none => rw [e] at h; cases h
      | some m' =>
        rw [e] at h
        cases h
        have := sz_mid e
        rw [sz_cons a, sz_cons a]
        omega
theorem sz_shorter (l : List Int) : sz (Tn.shorter l) ≤ sz l := by
  rcases Tn.shorter_cases l with ⟨m, e, e2⟩ | ⟨_, m, e, e2⟩ | ⟨_, _, e2⟩
  · rw [e2]; exact sz_mid e
  · rw [e2]
    match l, e with
    | [], e => cases e
    | [_], e => cases e
    | [_, _], e => cases e
    | a :: x :: y :: l, e =>
      rw [Tn.headJoin_c] at e
      split at e
      · cases e
        rw [sz_cons, sz_cons, sz_cons, sz_cons, sz_cons]
        omega
      · cases e
  · rw [e2]; exact Nat.le_refl _
theorem short_le {ts : List Int} (h : Tiny ts) : ∀ t ∈ Tn.short ts, t.natAbs ≤ 3000 := fun t ht => by
  obtain ⟨a, _, _⟩ := Tn.shortL_ind (fun m => sz m ≤ sz ts) (fun l hl => Nat.le_trans (sz_shorter l) hl) _ _ (Nat.le_refl _) (sz_summed ts)
  have h1 := sz_mem ht
  have h2 := sz_le (l := ts) 50 fun t ht => by have := h.2 t ht; omega
  have h3 := h.1
  have h4 : sz (Tn.short ts) ≤ sz ts := a
  omega
theorem short_small {ts : List Int} (h : Tiny ts) : Small (Tn.short ts) := ⟨by obtain ⟨_, _, c, _⟩ := Tn.short_spec ts; have := h.1; omega, fun t ht => by
  have := short_le h t ht
  have e120 : Bd = 1329227995784915872903807060280344576 := by unfold Bd; decide
  rw [e120]
  omega⟩
def sp_fr (K : PySem.W.Frag) : Sp := fun vs H Q _ => ∃ (B : Hp) (v : V) (ts : List Int) (W : Int), vs = [v, .int W] ∧ Ex B H ∧ Dt K B v ts ∧ Tiny ts ∧ 1 ≤ W ∧ W ≤ 20000000000000000000000000000 ∧ ∀ H', Gr M0 B H B H' → Q (.bl true) H'
theorem ok_fr (ml : mg "len" = none) (mli : mg "list" = none) (mn : mg "min" = none) (mi : mg "isinstance" = none) (e1 : Cal P w K mg base "short_form" 2 ["turns"] (sp_sf K)) (k1 : CalK P w K mg base "short_form" 2 ["turns"] ["turns"] (fun l => l) (sp_sf K))
    (e2 : Cal P w K mg base "is_short" 3 ["turns"] (sp_is K)) (k2 : CalK P w K mg base "is_short" 3 ["turns"] ["turns"] (fun l => l) (sp_is K)) (e3 : Cal P w K mg base "_law_is_form" 1 ["_law_form"] (sp_isf K)) (e4 : Cal P w K mg base "_law_same" 2 ["_law_one", "_law_other", "_law_most"] (sp_same K)) (e5 : Cal P w K mg base "_law_greatest" 1 ["_law_turns_here"] sp_gre) :
    ∀ f fd, Fun K "_law_form_right" "_law_form_right" s_fr f fd → FnOk P w K mg base CX0 4 f fd ["_law_turns_here", "_law_width"] (sp_fr K) := by
  refine ok_of sc_fr (fun vs H Q E h => by obtain ⟨_, _, _, _, rfl, _⟩ := h; rfl) (fun f cdv A outer s H vs Q E hr h => ?_)
  obtain ⟨B, v, ts, W, rfl, kB, hd, hti, w0, w1, k⟩ := h
  have hsm := tiny_small hti
  obtain ⟨fa, fb, fc, fd'⟩ := Tn.short_spec ts
  have hnf := Tn.short_nf ts
  obtain ⟨a, vs, rfl, hL, hA⟩ := dt_list hd
  have ei := hA.ints
  subst ei
  -- kept
  refine s_cons (s_set 2 sc_fr.nd (h := e_ty call_list_of mli bnm_list ?_))
  walk_at "E"
  refine ⟨_, _, rfl, .inl (ex_l kB hL), fun p hp => ?_⟩
  have g1 := (Gr.refl (M := M0) kB).new (o := .lst (ts.map V.int)) hp
  have dK : Dt K (upd B p (.lst (ts.map V.int))) (.ref p) ts := dtL (SqL.of upd_same) das_ints
  have hB1 : Ex B (upd B p (.lst (ts.map V.int))) := g1.b
  generalize upd B p (HO.lst (ts.map V.int)) = B1 at *
  generalize upd H p (HO.lst (ts.map V.int)) = H1 at *
  -- form
  refine s_cons (s_set 3 sc_fr.nd (h := e_call e1 (hr.mono (by decide)) (h := ?_)))
  walk_at "E"
  refine ⟨B1, _, ts, rfl, g1.k, hd.mono hB1, hsm, fun F H2 g2 hF eF => ?_⟩
  have g3 := g2.learn hF (none_of_ex g1.k hF) eF
  have gA := g1.trans g3
  have dF : Dt K (upd B1 F (.lst ((Tn.short ts).map V.int))) (.ref F) (Tn.short ts) := dtL (SqL.of upd_same) das_ints
  have eF3 : (upd B1 F (.lst ((Tn.short ts).map V.int))) F = some (.lst ((Tn.short ts).map V.int)) := upd_same
  have hB2 : Ex B1 (upd B1 F (.lst ((Tn.short ts).map V.int))) := g3.b
  generalize upd B1 F (HO.lst ((Tn.short ts).map V.int)) = B2 at *
  have hB : Ex B B2 := hB1.trans hB2
  have dT := hd.mono hB
  have dK2 := dK.mono hB2
  have hFs : Small (Tn.short ts) := short_small hti
  have hFb := short_le hti
  -- a list, a form, the turns as they were
  refine s_cons (s_if (t_wb (b_or (t_not (t_val (e_blt call_isi mi (by decide +kernel) ?_))))))
  walk_at "E"
  refine e_bltn mli bnm_list (v := .ty "list") rfl (q := ?_)
  walk_at "E"
  refine ⟨_, _, .type "list", .type "list", true, rfl, .ty _, tyx_l (SqL.of eF), kit_ty (by decide +kernel), true, rfl, iff_ rfl ?_⟩
  refine b_or (t_not (t_val (e_call e3 (hr.mono (by decide)) (h := ?_))))
  walk_at "E"
  refine ⟨B2, _, Tn.short ts, rfl, gA.k, dF, hnf, fun H3 g4 => ⟨_, rfl, iff_ rfl ?_⟩⟩
  refine b_or1 (t_cmp (op_neD hr.units) (h := ?_))
  walk_at "E"
  refine ne_dat (B := B2) (x := ts) (y := ts) dT dK2 g4.k (by decide) ⟨_, rfl, ifn (fun z => absurd rfl z) fun _ => s_nil ?_⟩
  have gB := gA.trans g4
  -- no longer, short itself
  refine s_cons (s_if (t_wb (b_or (t_cmp op_gt (h := e_blt call_len_seq ml PySem.boot_len ?_)))))
  walk_at "E"
  refine ⟨_, _, rfl, .inl (SqL.of (gB.k _ _ eF3)), ?_⟩
  refine e_blt call_len_seq ml PySem.boot_len ?_
  walk_at "E"
  refine ⟨_, _, rfl, .inl (ex_l (hB.trans gB.k) hL), ?_⟩
  refine ⟨_, _, rfl, rfl, _, rfl, iff_ (decide_eq_false (by rw [List.length_map, List.length_map]; omega)) ?_⟩
  refine b_or (t_cmp op_notBl (h := e_call e2 (hr.mono (by decide)) (h := ?_)))
  walk_at "E"
  refine ⟨B2, _, Tn.short ts, rfl, gB.k, dF, hFs, fun H4 g5 => ?_⟩
  walk_at "E"
  refine ⟨_, _, rfl, rfl, _, rfl, iff_ (by rw [decide_eq_true (Tn.short_idem ts)]; rfl) ?_⟩
  refine b_or1 (t_cmp (op_neD hr.units) (h := e_callK k1 (hr.mono (by decide)) (h := ?_)))
  walk_at "E"
  refine ⟨rfl, rfl, B2, _, Tn.short ts, rfl, g5.k, dF, hFs, fun D H5 g6 hD eD => ?_⟩
  walk_at "E"
  rw [Tn.short_idem ts] at eD
  refine ne_dat (B := H5) (x := Tn.short ts) (y := Tn.short ts) (dtL (SqL.of eD) das_ints) (dF.mono g6.k) (Ex.refl _) (by decide) ⟨_, rfl, ifn (fun z => absurd rfl z) fun _ => s_nil ?_⟩
  have gC := (gB.trans g5).trans g6
  -- is_short, the same
  refine s_cons (s_if (t_wb (b_or (t_cmp op_ne (h := e_callK k2 (hr.mono (by decide)) (h := ?_))))))
  walk_at "E"
  refine ⟨rfl, rfl, B2, _, ts, rfl, gC.k, dT, hsm, fun H6 g7 => ?_⟩
  refine e_cmp (op_eqD hr.units) (h := ?_)
  walk_at "E"
  refine eq_dat (B := B2) (x := ts) (y := Tn.short ts) dT dF g7.k (by decide) ?_
  refine ⟨rfl, _, rfl, iff_ ?_ ?_⟩
  · have e : decide (Tn.short ts = ts) = decide (ts = Tn.short ts) := decide_eq_decide.mpr ⟨fun z => z.symm, fun z => z.symm⟩
    rw [e]
    simp
  have gD := gC.trans g7
  refine b_or1 (t_not (t_val (e_call e4 (hr.mono (by decide)) (h := ?_))))
  walk_at "E"
  refine e_blt (call_min2 rfl) mn (by decide +kernel) (a_cons (h := e_int (a_cons (h := e_add (h := e_call e5 (hr.mono (by decide)) (h := ?_))))))
  walk_at "E"
  refine ⟨B2, F, Tn.short ts, rfl, gD.k, gD.k _ _ eF3, Nat.le_trans hFs.1 (by decide), fun m H7 g8 m0 _ _ => ?_⟩
  walk_at "E"
  refine ⟨_, _, rfl, rfl, ?_⟩
  walk_at "E"
  refine ⟨_, _, rfl, ?_⟩
  rw [py_min]
  walk_at "E"
  refine ⟨B2, _, _, ts, Tn.short ts, _, rfl, g8.k, dT, dF, by omega, by omega, fun b hb => ⟨_, rfl, iff_ ?_ (s_nil ?_)⟩⟩
  · rw [hb.mpr fun r x _ _ h2 h3 => (fd' r x h2 h3).symm]
    rfl
  have gE := gD.trans g8
  -- great turns
  refine s_one (s_ret (e_cmp (op_eqD hr.units) (h := e_call e1 (hr.mono (by decide)) (h := a_cons (h := ?_)))))
  refine e_lc [("_law_turn", 4)] sc_fr.nd (ok := blkOk_by (N := N_fr) (sc := defScope s_fr) (by decide +kernel)) (h := i_list ?_)
  walk_at "E"
  refine ⟨_, rfl, ⟨_, ex_l (hB.trans gE.k) hL⟩, fun D hD => lcL (K := K) (fun t : Int => some (W * t)) (ex_l hB hL) (das_ints (ns := ts)) gE.k hD (Nat.lt_of_le_of_lt hti.1 (by decide)) ?_ ?_⟩
  · intro i y x B' H' hy dx g KT KF kt kf s0 H0 C0 cl fp
    cases dt_int dx
    have hyb := hti.2 y (List.mem_of_getElem? hy)
    refine g_name 4 sc_fr.nd (q := ⟨rfl, ?_⟩)
    intro s0 H0 C0 cl fp
    refine ts_nil (ift rfl ?_)
    intro s0 H0 C0 cl fp
    refine e_bin op_mul (h := ?_)
    walk_at "E"
    exact ⟨_, _, rfl, rfl, .inr ⟨by omega, by omega⟩, kt _ _ B' _ rfl (Gr.refl g.k) (dtI _)⟩
  intro B3 H8 acc g9 b9 e9 d9
  rw [fm_map] at d9
  have g10 := g9.learn hD b9 e9
  have dS : Dt K (upd B3 D (.lst acc)) (.ref D) (ts.map (W * ·)) := dtL (SqL.of upd_same) (d9.mono (Ex.new b9))
  have hB3 : Ex B2 (upd B3 D (.lst acc)) := g10.b
  generalize upd B3 D (HO.lst acc) = B4 at *
  have gF := gE.trans g10
  refine a_nil ⟨B4, _, ts.map (W * ·), rfl, gF.k, dS, tiny_sc hti w0 w1, fun D2 H9 g11 hD2 e11 => ?_⟩
  have gG := gF.trans g11
  rw [Tn.short_sc (by omega)] at e11
  refine e_lc [("_law_turn", 4)] sc_fr.nd (ok := blkOk_by (N := N_fr) (sc := defScope s_fr) (by decide +kernel)) (h := i_list ?_)
  walk_at "E"
  refine ⟨_, rfl, ⟨_, SqL.of (gG.k _ _ (hB3 _ _ eF3))⟩, fun D3 hD3 => lcL (K := K) (fun t : Int => some (W * t)) (SqL.of (hB3 _ _ eF3)) (das_ints (ns := Tn.short ts)) gG.k hD3 (Nat.lt_of_le_of_lt hFs.1 (by decide)) ?_ ?_⟩
  · intro i y x B' H' hy dx g KT KF kt kf s0 H0 C0 cl fp
    cases dt_int dx
    have hyb := hFb y (List.mem_of_getElem? hy)
    refine g_name 4 sc_fr.nd (q := ⟨rfl, ?_⟩)
    intro s0 H0 C0 cl fp
    refine ts_nil (ift rfl ?_)
    intro s0 H0 C0 cl fp
    refine e_bin op_mul (h := ?_)
    walk_at "E"
    exact ⟨_, _, rfl, rfl, .inr ⟨by omega, by omega⟩, kt _ _ B' _ rfl (Gr.refl g.k) (dtI _)⟩
  intro B5 H10 acc2 g12 b12 e12 d12
  rw [fm_map] at d12
  refine eq_dat (B := H10) (x := (Tn.short ts).map (W * ·)) (y := (Tn.short ts).map (W * ·)) (dtL (SqL.of (g12.ex _ _ e11)) das_ints) (dtL (SqL.of e12) (d12.mono g12.k)) (Ex.refl _) (by decide) ?_
  rw [decide_eq_true rfl]
  exact k _ ((gG.trans g12).base (Ex.refl B))
end
end K37
namespace K37
open PySem L2 Evl Lw
section
variable {P : Program} {w : World} {K : PySem.W.Frag} {mg : Str → Option Value} {base : Heap}
/-! law -/
abbrev N_law : List Str := ["_law_script", "_law_k", "_law_jug_here", "_law_width", "_law_one", "_law_other", "_law_first", "_law_second", "_law_alike", "_law_most"]
theorem sc_law : FnScope N_law ["_law_script"] (defScope s_law) := ⟨rfl, rfl, rfl, by decide +kernel, rfl, by decide +kernel, by decide +kernel⟩
def sp_law (K : PySem.W.Frag) : Sp := fun vs H Q _ => ∃ (a : Addr) (ns : List Int), vs = [.ref a] ∧ SqL K H a (ns.map V.int) ∧ ns.length ≤ 63 ∧ ∀ H', Q (.bl true) H'
structure LC (P : Program) (w : World) (K : PySem.W.Frag) (mg : Str → Option Value) (base : Heap) : Prop where
  mr : mg "range" = none
  ml : mg "len" = none
  mmin : mg "min" = none
  mmax : mg "max" = none
  mi : mg "isinstance" = none
  mb : mg "bool" = none
  ej : Cal P w K mg base "_law_jug" 1 ["_law_script", "_law_k"] (sp_jug K)
  e0 : Cal P w K mg base "_law_pour" 1 ["_law_jug_here", "_law_many"] sp_pour
  et : Cal P w K mg base "_law_turns" 2 ["_law_jug_here", "_law_most", "_law_size"] (sp_turns K)
  ec : Cal P w K mg base "_law_changed" 2 ["_law_jug_here", "_law_turns_here"] (sp_chg K)
  ef : Cal P w K mg base "_law_form_right" 4 ["_law_turns_here", "_law_width"] (sp_fr K)
  es : Cal P w K mg base "short_form" 2 ["turns"] (sp_sf K)
  ea : Cal P w K mg base "turns_alike" 3 ["one", "other"] (sp_al K)
  eaK : CalK P w K mg base "turns_alike" 3 ["one", "other"] ["one", "other"] (fun l => l) (sp_al K)
  eg : Cal P w K mg base "_law_greatest" 1 ["_law_turns_here"] sp_gre
  em : Cal P w K mg base "_law_same" 2 ["_law_one", "_law_other", "_law_most"] (sp_same K)
theorem top_of {F : List Int} {m : Int} (h0 : 0 ≤ m) (h1 : m = 0 ∨ ∃ t ∈ F.take 2, m = ((t.natAbs : Nat) : Int)) (h2 : ∀ t ∈ F.take 2, ((t.natAbs : Nat) : Int) ≤ m) : m = (Tn.top2 F : Nat) := by
  match F, h1, h2 with
  | [], h1, _ =>
    show m = ((max (0 : Int).natAbs (0 : Int).natAbs : Nat) : Int)
    rcases h1 with h | ⟨t, ht, _⟩
    · exact h
    · cases ht
  | [a], h1, h2 =>
    have ha := h2 a List.mem_cons_self
    show m = ((max a.natAbs (0 : Int).natAbs : Nat) : Int)
    rcases h1 with h | ⟨t, ht, e⟩
    · omega
    · rw [List.mem_singleton.mp ht] at e; omega
  | a :: b :: l, h1, h2 =>
    have ha := h2 a List.mem_cons_self
    have hb := h2 b (List.mem_cons_of_mem _ List.mem_cons_self)
    show m = ((max a.natAbs b.natAbs : Nat) : Int)
    rcases h1 with h | ⟨t, ht, e⟩
    · omega
    · rcases List.mem_cons.mp ht with rfl | ht
      · omega
      · rw [List.mem_singleton.mp ht] at e; omega
theorem same_iff {one other : List Int} {m : Int} (hm : m = (min (Tn.top2 (Tn.short one)) (Tn.top2 (Tn.short other)) : Nat) + 1) : Same one other m ↔ Tn.short one = Tn.short other := by
  obtain ⟨_, _, _, d1⟩ := Tn.short_spec one
  obtain ⟨_, _, _, d2⟩ := Tn.short_spec other
  constructor
  · intro h
    refine Tn.nf_eq (Tn.short_nf one) (Tn.short_nf other) fun r x r0 r1 x0 x1 => ?_
    rw [d1 r x x0 x1, d2 r x x0 x1]
    exact h r x r0 (by omega) x0 x1
  · intro h r x r0 r1 x0 x1
    rw [← d1 r x x0 x1, ← d2 r x x0 x1, h]
theorem ok_law (S : LC P w K mg base) : ∀ f fd, Fun K "law" "law" s_law f fd → FnOk P w K mg base CX0 5 f fd ["_law_script"] (sp_law K) := by
  refine ok_of sc_law (fun vs H Q E h => by obtain ⟨_, _, rfl, _⟩ := h; rfl) (fun f cdv A outer s0 H vs Q E hr h => ?_)
  obtain ⟨a, ns, rfl, hL, hn, q⟩ := h
  refine s_cons (s_for (h := i_rng1 S.mr (h := e_blt (call_max2 rfl) S.mmax (by decide +kernel) (a_cons (h := e_int (a_cons (h := e_blt (call_min2 rfl) S.mmin (by decide +kernel) (a_cons (h := e_int (a_cons (h := e_blt call_len_seq S.ml PySem.boot_len ?_)))))))))))
  walk_at "E"
  refine ⟨_, _, rfl, .inl hL, ?_⟩
  walk_at "E"
  rw [List.length_map]
  refine ⟨_, _, rfl, ?_⟩
  walk_at "E"
  refine ⟨_, _, rfl, ?_⟩
  rw [py_max, py_min]
  obtain ⟨m, hm⟩ : ∃ m, m = max 1 (min 3 ((ns.length : Nat) : Int)) := ⟨_, rfl⟩
  rw [← hm]
  refine ⟨m, rfl, by omega, by omega, ?_⟩
  refine for_it walk_r0 (fun i σ H' => (∃ u1 u2 u3 u4 u5 u6 u7 u8 u9, σ = [some (.ref a), u1, u2, u3, u4, u5, u6, u7, u8, u9]) ∧ Ex H H') ⟨⟨none, none, none, none, none, none, none, none, none, rfl⟩, Ex.refl H⟩ (fun _ _ _ _ _ => trivial) ?_ ?_
  rotate_left
  · rintro σ H' ⟨⟨u1, u2, u3, u4, u5, u6, u7, u8, u9, rfl⟩, ex⟩
    exact s_one (s_ret (e_bl (q H')))
  rintro i0 x σ H' B hi ⟨⟨u1, u2, u3, u4, u5, u6, u7, u8, u9, rfl⟩, ex⟩ ⟨rfl, rfl⟩
  refine g_name 1 sc_law.nd (q := ?_)
  refine s_cons (s_set 2 sc_law.nd (h := e_call S.ej (hr.mono (by decide)) (h := ?_)))
  walk_at "E"
  refine ⟨a, ns, i0, rfl, ex_l ex hL, by omega, fun d x y z hd0 hj => ?_⟩
  have j0 : Jk B (upd B d (dk x y z)) d 900000 := ⟨Ex.new hd0, hd0, hj⟩
  generalize upd B d (dk x y z) = H0 at *
  have g0 : Gr (Md d) B H0 B H0 := Gr.refl j0.k
  have eP : (10 : Int) ^ (28 : Int).toNat = 10000000000000000000000000000 := by decide
  have e250 : (2 : Nat) ^ 250 = 1809251394333065553493296640760748560207343510400633813116524750123642650624 := by decide
  have bn : ∀ {x : Int}, 0 ≤ x → x ≤ 1000000000000000000000000000000 → x.natAbs < 2 ^ 250 := fun h1 h2 => by rw [e250]; omega
  -- width
  refine s_cons (s_set 3 sc_law.nd (h := e_ixL (h := e_lst (a_cons (h := e_int (a_cons (h := e_add (h := ?_))))))))
  walk_at "E"
  refine e_call S.e0 (hr.mono (by decide)) (h := ?_)
  walk_at "E"
  refine pour_k (n := 899999) j0 (by decide) (by decide) fun r1 H1 a0 a1 g1 j1 => ?_
  walk_at "ii"
  refine a_cons (h := e_add (h := ?_))
  walk_at "E"
  refine e_call S.e0 (hr.mono (by decide)) (h := ?_)
  walk_at "E"
  refine e_pow (h := ?_)
  walk_at "E"
  refine ⟨_, _, rfl, rfl, ⟨by decide, by decide, by decide⟩, ?_⟩
  rw [eP]
  walk_at "E"
  refine pour_k (n := 899998) j1 (by decide) (bn (by decide) (by decide)) fun r2 H2 b0 b1 g2 j2 => ?_
  walk_at "ii"
  walk_at "E"
  refine ⟨by show 3 ≤ sizeLine; decide, fun p1 hp1 => ?_⟩
  have gA := ((g0.trans g1).trans g2).own (o := .lst [.int 1, .int (2 + r1), .int (1 + r2)]) hp1
  have jA := j2.own (o := .lst [.int 1, .int (2 + r1), .int (1 + r2)]) hp1
  have eA : (upd H2 p1 (.lst [.int 1, .int (2 + r1), .int (1 + r2)])) p1 = some (.lst [.int 1, .int (2 + r1), .int (1 + r2)]) := upd_same
  have nA : d ≠ p1 := j2.at_.ne hp1
  refine e_call S.e0 (hr.mono (by decide)) (h := ?_)
  walk_at "E"
  refine pour_k (n := 899997) jA (by decide) (by decide) fun c H3 c0 c1 g3 j3 => ?_
  have eA3 := g3.h _ _ (fun z => nA z.symm) eA
  have gB := gA.trans g3
  obtain ⟨W, hW1, hW2, hW3⟩ : ∃ W : Int, ([V.int 1, .int (2 + r1), .int (1 + r2)])[c.toNat]? = some (.int W) ∧ 1 ≤ W ∧ W ≤ 20000000000000000000000000000 := by
    have : c = 0 ∨ c = 1 ∨ c = 2 := by omega
    rcases this with rfl | rfl | rfl
    · exact ⟨1, rfl, by decide, by decide⟩
    · exact ⟨_, rfl, by omega, by omega⟩
    · exact ⟨_, rfl, by omega, by omega⟩
  refine ⟨p1, _, c, _, rfl, rfl, SqL.of eA3, at_of (by omega : c = (c.toNat : Int)) hW1, ?_⟩
  -- one
  refine s_cons (s_set 4 sc_law.nd (h := e_call S.et (hr.mono (by decide)) (h := ?_)))
  refine a_cons (h := ?_)
  walk_at "nm"
  refine a_cons (h := ?_)
  refine e_int ?_
  refine a_cons (h := e_ixL (h := e_lst ?_))
  walk_at "E"
  refine ⟨by show 3 ≤ sizeLine; decide, fun p2 hp2 => ?_⟩
  have gC := gB.own (o := .lst [.int 2, .int 5, .int 5]) hp2
  have jC := j3.own (o := .lst [.int 2, .int 5, .int 5]) hp2
  have eC : (upd H3 p2 (.lst [.int 2, .int 5, .int 5])) p2 = some (.lst [.int 2, .int 5, .int 5]) := upd_same
  have nC : d ≠ p2 := j3.at_.ne hp2
  generalize upd H3 p2 (HO.lst [.int 2, .int 5, .int 5]) = H4 at *
  refine e_call S.e0 (hr.mono (by decide)) (h := ?_)
  walk_at "E"
  refine pour_k (n := 899996) jC (by decide) (by decide) fun c2 H5 c20 c21 g5 j5 => ?_
  have eC5 := g5.h _ _ (fun z => nC z.symm) eC
  have gD := gC.trans g5
  obtain ⟨s1, hs1, hs2, hs3⟩ : ∃ s1 : Int, ([V.int 2, .int 5, .int 5])[c2.toNat]? = some (.int s1) ∧ 0 ≤ s1 ∧ s1 ≤ 5 := by
    have : c2 = 0 ∨ c2 = 1 ∨ c2 = 2 := by omega
    rcases this with rfl | rfl | rfl
    · exact ⟨2, rfl, by decide, by decide⟩
    · exact ⟨5, rfl, by decide, by decide⟩
    · exact ⟨5, rfl, by decide, by decide⟩
  refine ⟨p2, _, c2, _, rfl, rfl, SqL.of eC5, at_of (by omega : c2 = (c2.toNat : Int)) hs1, a_nil ?_⟩
  refine ⟨B, d, 7, s1, 899000, rfl, j5.le (by decide), by decide, by decide, hs2, by omega, fun va one B1 H6 g6 j6 done hol hob => ?_⟩
  have gE := gD.trans g6
  have ti1 : Tiny one := ⟨hol, fun t ht => by have := hob t ht; omega⟩
  -- other
  have other : ∀ {D' : Ends}, (∀ (vb : V) (other : List Int) (B2 H7 : Hp), Gr (Md d) B1 H6 B2 H7 → Jk B2 H7 d 0 → Dt K B2 vb other → Tiny other → D'.nx [some (.ref a), some (.int (i0 : Nat)), some (.ref d), some (.int W), some va, some vb, u6, u7, u8, u9] H7) →
      WS (cxOf CX0 P w K mg base N_law "law" (defScope s_law) f cdv A outer s0 H E).nox (match (defBody s_law).getD 0 (.Pass ⟨0, 0, 0, 0⟩) with | .For _ _ b _ _ => b.getD 3 (.Pass ⟨0, 0, 0, 0⟩) | x => x) D' [some (.ref a), some (.int (i0 : Nat)), some (.ref d), some (.int W), some va, u5, u6, u7, u8, u9] H6 := by
    intro D' qq
    refine s_set 5 sc_law.nd (h := e_if (t_cmp op_eq (h := e_call S.e0 (hr.mono (by decide)) (h := ?_))))
    walk_at "E"
    refine pour_k (n := 898999) j6 (by decide) (by decide) fun r H7 r0 r1 g7 j7 => ?_
    walk_at "E"
    refine ⟨rfl, _, rfl, ifd (fun c => ?_) fun c => ?_⟩
    · refine e_call S.ec (hr.mono (by decide)) (h := ?_)
      walk_at "E"
      refine ⟨B1, d, va, one, 0, rfl, j7.le (by decide), done, fun t ht => by have := ti1.2 t ht; have := hob t ht; omega, fun vb us B2 H8 g8 j8 d8 l8 b8 => ?_⟩
      exact qq vb us B2 H8 (g7.trans g8) j8 d8 ⟨l8, b8⟩
    · refine e_call S.et (hr.mono (by decide)) (h := ?_)
      refine a_cons (h := ?_)
      walk_at "nm"
      refine a_cons (h := ?_)
      refine e_int ?_
      refine a_cons (h := e_ixL (h := e_lst ?_))
      walk_at "E"
      refine ⟨by show 2 ≤ sizeLine; decide, fun p3 hp3 => ?_⟩
      have g8 := g7.own (o := .lst [.int 2, .int 5]) hp3
      have j8 := j7.own (o := .lst [.int 2, .int 5]) hp3
      have e8 : (upd H7 p3 (.lst [.int 2, .int 5])) p3 = some (.lst [.int 2, .int 5]) := upd_same
      have n8 : d ≠ p3 := j7.at_.ne hp3
      generalize upd H7 p3 (HO.lst [.int 2, .int 5]) = H8 at *
      refine e_call S.e0 (hr.mono (by decide)) (h := ?_)
      walk_at "E"
      refine pour_k (n := 898998) j8 (by decide) (by decide) fun c2 H9 c20 c21 g9 j9 => ?_
      have e9 := g9.h _ _ (fun z => n8 z.symm) e8
      obtain ⟨s2, hs1, hs2, hs3⟩ : ∃ s1 : Int, ([V.int 2, .int 5])[c2.toNat]? = some (.int s1) ∧ 0 ≤ s1 ∧ s1 ≤ 5 := by
        have : c2 = 0 ∨ c2 = 1 := by omega
        rcases this with rfl | rfl
        · exact ⟨2, rfl, by decide, by decide⟩
        · exact ⟨5, rfl, by decide, by decide⟩
      refine ⟨p3, _, c2, _, rfl, rfl, SqL.of e9, at_of (by omega : c2 = (c2.toNat : Int)) hs1, a_nil ?_⟩
      refine ⟨B1, d, 7, s2, 0, rfl, j9.le (by decide), by decide, by decide, hs2, by omega, fun vb us B2 H10 g10 j10 d10 l10 b10 => ?_⟩
      exact qq vb us B2 H10 ((g8.trans g9).trans g10) j10 d10 ⟨l10, fun t ht => by have := b10 t ht; omega⟩
  refine s_cons (other fun vb oth B2 H7 g7 j7 doth ti2 => ?_)
  have gF := gE.trans g7
  have done2 := done.mono g7.b
  clear other
  -- the forms are right
  refine s_cons (s_if (t_wb (b_or (t_not (t_val (e_call S.ef hr (h := ?_)))))))
  walk_at "E"
  refine ⟨B2, _, one, W, rfl, j7.k, done2, ti1, hW2, hW3, fun H8 g8 => ⟨_, rfl, iff_ rfl ?_⟩⟩
  refine b_or1 (t_not (t_val (e_call S.ef hr (h := ?_))))
  walk_at "E"
  refine ⟨B2, _, oth, W, rfl, g8.k, doth, ti2, hW2, hW3, fun H9 g9 => ⟨_, rfl, iff_ rfl (s_nil ?_)⟩⟩
  have gG := g8.trans g9
  -- first, second
  refine s_cons (s_par 6 7 sc_law.nd (h := a_cons (h := e_call S.es (hr.mono (by decide)) (h := ?_))))
  walk_at "E"
  refine ⟨B2, _, one, rfl, gG.k, done2, tiny_small ti1, fun F1 H10 g10 hF1 eF1 => ?_⟩
  refine a_cons (h := e_call S.es (hr.mono (by decide)) (h := ?_))
  walk_at "E"
  refine ⟨B2, _, oth, rfl, g10.k, doth, tiny_small ti2, fun F2 H11 g11 hF2 eF2 => ?_⟩
  have eF1' := g11.ex _ _ eF1
  have gH := (gG.trans g10).trans g11
  refine a_nil ⟨_, _, rfl, ?_⟩
  -- alike
  refine s_cons (s_set 8 sc_law.nd (h := e_call S.ea (hr.mono (by decide)) (h := ?_)))
  walk_at "E"
  refine ⟨B2, _, _, one, oth, rfl, gH.k, done2, doth, tiny_small ti1, tiny_small ti2, fun H12 g12 => ?_⟩
  have gI := gH.trans g12
  refine s_cons (s_if (t_wb (b_or (t_not (t_val (e_blt call_isi S.mi (by decide +kernel) ?_))))))
  walk_at "E"
  refine e_bltn S.mb bnm_bool (v := .ty "bool") rfl (q := ?_)
  walk_at "E"
  refine ⟨_, _, .type "bool", .type "bool", true, rfl, .ty _, .base (.bl _), kit_ty (by decide +kernel), true, rfl, iff_ rfl ?_⟩
  refine b_or (t_cmp op_ne (h := ?_))
  walk_at "nm"
  refine e_cmp (op_eqD hr.units) (h := ?_)
  walk_at "E"
  refine eq_dat (B := H12) (x := Tn.short one) (y := Tn.short oth) (dtL (SqL.of (g12.ex _ _ eF1')) das_ints) (dtL (SqL.of (g12.ex _ _ eF2)) das_ints) (Ex.refl _) (by decide) ⟨rfl, _, rfl, iff_ (by simp) ?_⟩
  refine b_or1 (t_cmp op_ne (h := e_callK S.eaK (hr.mono (by decide)) (h := ?_)))
  walk_at "E"
  refine ⟨rfl, rfl, B2, _, _, oth, one, rfl, gI.k, doth, done2, tiny_small ti2, tiny_small ti1, fun H13 g13 => ?_⟩
  walk_at "E"
  have esym : decide (Tn.short oth = Tn.short one) = decide (Tn.short one = Tn.short oth) := decide_eq_decide.mpr ⟨fun z => z.symm, fun z => z.symm⟩
  rw [esym]
  refine ⟨rfl, _, rfl, iff_ (by simp) (s_nil ?_)⟩
  have gJ := gI.trans g13
  have eG1 := (g12.trans g13).ex _ _ eF1'
  have eG2 := (g12.trans g13).ex _ _ eF2
  -- most
  refine s_cons (s_set 9 sc_law.nd (h := e_add (h := e_blt (call_min2 rfl) S.mmin (by decide +kernel) (a_cons (h := e_call S.eg (hr.mono (by decide)) (h := a_cons (h := e_slice (h := ?_))))))))
  walk_at "E"
  refine o_none (o_some ?_)
  walk_at "E"
  refine ⟨_, rfl, F1, _, rfl, SqL.of eG1, fun p5 hp5 => ?_⟩
  have ec1 : cutV ((Tn.short one).map V.int) none (some 2) = ((Tn.short one).take 2).map V.int := cut_upto (k := 2)
  rw [ec1]
  have g14 := (Gr.refl (M := M0) gJ.k).own (o := .lst (((Tn.short one).take 2).map V.int)) hp5
  have e14 : (upd H13 p5 (.lst (((Tn.short one).take 2).map V.int))) p5 = some (.lst (((Tn.short one).take 2).map V.int)) := upd_same
  generalize upd H13 p5 (HO.lst (((Tn.short one).take 2).map V.int)) = H14 at *
  refine a_nil ⟨B2, p5, _, rfl, g14.k, e14, Nat.le_trans (by rw [List.length_take]; exact Nat.min_le_left _ _) (by decide), fun m1 H15 g15 m10 m11 m12 => ?_⟩
  have hm1 := top_of m10 m11 m12
  refine a_cons (h := e_call S.eg (hr.mono (by decide)) (h := a_cons (h := e_slice (h := ?_))))
  walk_at "E"
  refine o_none (o_some ?_)
  walk_at "E"
  refine ⟨_, rfl, F2, _, rfl, SqL.of ((g14.trans g15).ex _ _ eG2), fun p6 hp6 => ?_⟩
  have ec2 : cutV ((Tn.short oth).map V.int) none (some 2) = ((Tn.short oth).take 2).map V.int := cut_upto (k := 2)
  rw [ec2]
  have g16 := (g14.trans g15).own (o := .lst (((Tn.short oth).take 2).map V.int)) hp6
  have e16 : (upd H15 p6 (.lst (((Tn.short oth).take 2).map V.int))) p6 = some (.lst (((Tn.short oth).take 2).map V.int)) := upd_same
  generalize upd H15 p6 (HO.lst (((Tn.short oth).take 2).map V.int)) = H16 at *
  refine a_nil ⟨B2, p6, _, rfl, g16.k, e16, Nat.le_trans (by rw [List.length_take]; exact Nat.min_le_left _ _) (by decide), fun m2 H17 g17 m20 m21 m22 => ?_⟩
  have hm2 := top_of m20 m21 m22
  refine a_nil ⟨_, _, rfl, ?_⟩
  rw [py_min]
  walk_at "E"
  refine ⟨_, _, rfl, rfl, ?_⟩
  have gK := g16.trans g17
  obtain ⟨mo, hmo⟩ : ∃ mo : Int, mo = min m1 m2 + 1 := ⟨_, rfl⟩
  rw [← hmo]
  have hsame := same_iff (one := one) (other := oth) (m := mo) (by omega)
  have gL := gJ.trans gK
  have eK1 := gK.ex _ _ eG1
  -- the rest, behind the test
  have bF1 : B2 F1 = none := none_of_ex gG.k hF1
  obtain ⟨_, _, len1, _⟩ := Tn.short_spec one
  have rest : ∀ {D' : Ends} (Hz : Hp), Gr M0 B2 H17 B2 Hz → (∀ H', Ex B2 H' → D'.nx [some (.ref a), some (.int (i0 : Nat)), some (.ref d), some (.int W), some va, some vb, some (.ref F1), some (.ref F2), some (.bl (decide (Tn.short one = Tn.short oth))), some (.int mo)] H') → WSs (cxOf CX0 P w K mg base N_law "law" (defScope s_law) f cdv A outer s0 H E).nox (match (defBody s_law).getD 0 (.Pass ⟨0, 0, 0, 0⟩) with | .For _ _ b _ _ => b.drop 10 | _ => [])
      D' [some (.ref a), some (.int (i0 : Nat)), some (.ref d), some (.int W), some va, some vb, some (.ref F1), some (.ref F2), some (.bl (decide (Tn.short one = Tn.short oth))), some (.int mo)] Hz := by
    intro D' Hz gz nx
    have ez := gz.ex _ _ eK1
    refine s_cons (s_expr (h := e_bm PySem.F.plainAttrs_list PySem.F.slot_list_append PySem.F.type_list_append mt_append (h := ?_)))
    walk_at "E"
    refine ⟨.inl ⟨rfl, _, SqL.of ez⟩, ?_⟩
    walk_at "E"
    refine ⟨F1, _, _, rfl, rfl, ez, Nat.lt_of_le_of_lt (by rw [List.length_map]; have := ti1.1; omega : _ ≤ 100) (by decide), ?_⟩
    have gm : Gr (fun p => p = F1) B2 Hz B2 (upd Hz F1 (.lst ((Tn.short one).map V.int ++ [.int 9]))) := (Gr.refl gz.k).mut (.inl rfl) bF1
    have em : (upd Hz F1 (.lst ((Tn.short one).map V.int ++ [.int 9]))) F1 = some (.lst ((Tn.short one ++ [9]).map V.int)) := by rw [upd_same, List.map_append]; rfl
    have km := gm.k
    generalize upd Hz F1 (HO.lst ((Tn.short one).map V.int ++ [.int 9])) = Hm at *
    refine s_one (s_if (t_wb (b_or (t_cmp (op_eqD hr.units) (h := e_call S.es (hr.mono (by decide)) (h := ?_))))))
    walk_at "E"
    refine ⟨B2, _, one, rfl, km, done2, tiny_small ti1, fun D1 Hn gn hD1 eD1 => ?_⟩
    walk_at "E"
    refine eq_dat (B := Hn) (x := Tn.short one) (y := Tn.short one ++ [9]) (dtL (SqL.of eD1) das_ints) (dtL (SqL.of (gn.ex _ _ em)) das_ints) (Ex.refl _) (by decide) ⟨_, rfl, iff_ (decide_eq_false fun z => ?_) ?_⟩
    · have := congrArg List.length z
      rw [List.length_append, List.length_singleton] at this
      omega
    refine b_or1 (t_not (t_val (e_call S.ea (hr.mono (by decide)) (h := ?_))))
    obtain ⟨aone, vs, rfl, hLone, hA⟩ := dt_list done2
    have ei := hA.ints
    subst ei
    refine a_cons (h := e_slice (h := ?_))
    walk_at "E"
    refine o_none (o_some ?_)
    walk_at "E"
    refine ⟨_, rfl, aone, _, rfl, ex_l gn.k hLone, fun p7 hp7 => ?_⟩
    have ec3 : cutV (one.map V.int) none (some 59) = (one.take 59).map V.int := cut_upto (k := 59)
    rw [ec3]
    have g7 := gn.new (o := .lst ((one.take 59).map V.int)) hp7
    have e7 : (upd Hn p7 (.lst ((one.take 59).map V.int))) p7 = some (.lst ((one.take 59).map V.int)) := upd_same
    have b7 : (upd B2 p7 (.lst ((one.take 59).map V.int))) p7 = some (.lst ((one.take 59).map V.int)) := upd_same
    generalize upd Hn p7 (HO.lst ((one.take 59).map V.int)) = H20 at *
    generalize upd B2 p7 (HO.lst ((one.take 59).map V.int)) = B3 at *
    refine a_cons (h := e_bin op_cat (h := e_lst ?_))
    walk_at "E"
    refine ⟨by show 1 ≤ sizeLine; decide, fun p8 hp8 => ?_⟩
    have g8 := (Gr.refl (M := M0) g7.k).own (o := .lst [.int 0]) hp8
    have e8 : (upd H20 p8 (.lst [.int 0])) p8 = some (.lst [.int 0]) := upd_same
    generalize upd H20 p8 (HO.lst [.int 0]) = H21 at *
    refine e_slice (h := ?_)
    walk_at "E"
    refine o_none (o_some ?_)
    walk_at "E"
    refine ⟨_, rfl, aone, _, rfl, ex_l ((g7.b).trans g8.k) hLone, fun p9 hp9 => ?_⟩
    rw [ec3]
    have e9 : (upd H21 p9 (.lst ((one.take 59).map V.int))) p9 = some (.lst ((one.take 59).map V.int)) := upd_same
    have g9 := g8.own (o := .lst ((one.take 59).map V.int)) hp9
    have e89 : (upd H21 p9 (.lst ((one.take 59).map V.int))) p8 = some (.lst [.int 0]) := by rw [upd_ne (ne_of_none e8 hp9)]; exact e8
    generalize upd H21 p9 (HO.lst ((one.take 59).map V.int)) = H22 at *
    have l59 : (one.take 59).length ≤ 59 := by rw [List.length_take]; exact Nat.min_le_left _ _
    refine ⟨p8, p9, _, _, rfl, rfl, e89, e9, Nat.le_trans (by rw [List.length_map]; show 1 + _ ≤ 101; omega : _ ≤ 101) (by decide), fun p10 hp10 => ?_⟩
    have eJ : ([V.int 0] ++ (one.take 59).map V.int) = (0 :: one.take 59).map V.int := rfl
    rw [eJ]
    have g10 := g9.new (o := .lst ((0 :: one.take 59).map V.int)) hp10
    have s7 : SqL K (upd B3 p10 (.lst ((0 :: one.take 59).map V.int))) p7 ((one.take 59).map V.int) := SqL.of (g10.b _ _ b7)
    have s10 : SqL K (upd B3 p10 (.lst ((0 :: one.take 59).map V.int))) p10 ((0 :: one.take 59).map V.int) := SqL.of upd_same
    have t59 : Tiny (one.take 59) := ⟨by omega, fun t ht => ti1.2 t (List.mem_of_mem_take ht)⟩
    have t60 : Tiny (0 :: one.take 59) := ⟨by rw [List.length_cons]; omega, fun t ht => by
      rcases List.mem_cons.mp ht with rfl | h
      · decide
      · exact t59.2 t h⟩
    refine a_nil ⟨_, _, _, _, _, rfl, g10.k, dtL s7 das_ints, dtL s10 das_ints, tiny_small t59, tiny_small t60, fun H23 g23 => ⟨_, rfl, iff_ (by rw [Tn.short_zero]; simp) (s_nil (nx H23 ((g7.b.trans g10.b).trans g23.k)))⟩⟩
  -- most < 16
  refine s_cons (s_if (t_wb (b_and (t_cmp op_lt (h := ?_)))))
  walk_at "E"
  refine ⟨_, _, rfl, rfl, _, rfl, ?_⟩
  have last : ∀ Hz : Hp, Gr M0 B2 H17 B2 Hz → ∀ H', Ex B2 H' → (∃ u1 u2 u3 u4 u5 u6 u7 u8 u9, [some (.ref a), some (.int (i0 : Nat)), some (.ref d), some (.int W), some va, some vb, some (.ref F1), some (.ref F2), some (.bl (decide (Tn.short one = Tn.short oth))), some (.int mo)] = [some (.ref a), u1, u2, u3, u4, u5, u6, u7, u8, u9]) ∧ Ex H H' := fun Hz gz H' e => ⟨⟨_, _, _, _, _, _, _, _, _, rfl⟩, ex.trans (gF.b.trans e)⟩
  refine ifd (fun c => ?_) fun c => s_nil (rest H17 (Gr.refl gK.k) (last H17 (Gr.refl gK.k)))
  refine b_and1 (t_cmp op_ne (h := e_call S.em (hr.mono (by decide)) (h := ?_)))
  walk_at "E"
  refine ⟨B2, _, _, one, oth, mo, rfl, gK.k, done2, doth, by omega, by omega, fun bb hbb => ?_⟩
  walk_at "E"
  have e : bb = decide (Tn.short one = Tn.short oth) := by
    rw [hsame] at hbb
    by_cases c : Tn.short one = Tn.short oth
    · rw [hbb.mpr c, decide_eq_true c]
    · rw [decide_eq_false c]
      cases bb
      · rfl
      · exact absurd (hbb.mp rfl) c
  subst e
  refine ⟨rfl, _, rfl, iff_ (by simp) (s_nil (rest H17 (Gr.refl gK.k) (last H17 (Gr.refl gK.k))))⟩
end
end K37
namespace K37
open PySem L2 Evl Lw
section
variable {P : Program} {w : World} {K : PySem.W.Frag} {mg : Str → Option Value} {base : Heap}
structure Facts (K : PySem.W.Frag) (mg : Str → Option Value) : Prop where
  sf : Fn K mg "short_form" s_sf
  su : Fn K mg "_summed" s_su
  sh : Fn K mg "_shorter" s_sh
  is_ : Fn K mg "is_short" s_is
  al : Fn K mg "turns_alike" s_al
  jug : Fn K mg "_law_jug" s_jug
  pour : Fn K mg "_law_pour" s_pour
  turns : Fn K mg "_law_turns" s_turns
  led : Fn K mg "_law_led" s_led
  gre : Fn K mg "_law_greatest" s_gre
  same : Fn K mg "_law_same" s_same
  isf : Fn K mg "_law_is_form" s_isf
  chg : Fn K mg "_law_changed" s_chg
  fr : Fn K mg "_law_form_right" s_fr
  mmax : mg "max" = none
  mmin : mg "min" = none
  mrange : mg "range" = none
  mlen : mg "len" = none
  mlist : mg "list" = none
  mint : mg "int" = none
  mabs : mg "abs" = none
  msum : mg "sum" = none
  menum : mg "enumerate" = none
  misi : mg "isinstance" = none
  mbool : mg "bool" = none
theorem all_ok (W : Facts K mg) : ∀ f fd, Fun K "law" "law" s_law f fd → FnOk P w K mg base CX0 5 f fd ["_law_script"] (sp_law K) := by
  have su : Cal P w K mg base "_summed" 1 ["turns"] (sp_su K) := cal_fn W.su ok_su fun _ _ _ _ _ _ us hl => match us, hl with | [_], _ => rfl
  have sh : Cal P w K mg base "_shorter" 1 ["form"] sp_sh := cal_fn W.sh (ok_sh W.mrange W.mlen W.mmin W.msum W.mabs) fun _ _ _ _ _ _ us hl => match us, hl with | [_], _ => rfl
  have sfF := ok_sf W.mlen su sh
  have sf : Cal P w K mg base "short_form" 2 ["turns"] (sp_sf K) := cal_fn W.sf sfF fun _ _ _ _ _ _ us hl => match us, hl with | [_], _ => rfl
  have sfK : CalK P w K mg base "short_form" 2 ["turns"] ["turns"] (fun l => l) (sp_sf K) := calK_fn (fun l => l) W.sf sfF (fun r => r) fun _ _ _ _ _ _ ws hl => match ws, hl with | [_], _ => rfl
  have isF := ok_is sf
  have is_ : Cal P w K mg base "is_short" 3 ["turns"] (sp_is K) := cal_fn W.is_ isF fun _ _ _ _ _ _ us hl => match us, hl with | [_], _ => rfl
  have isK : CalK P w K mg base "is_short" 3 ["turns"] ["turns"] (fun l => l) (sp_is K) := calK_fn (fun l => l) W.is_ isF (fun r => r) fun _ _ _ _ _ _ ws hl => match ws, hl with | [_], _ => rfl
  have alF := ok_al sf
  have al : Cal P w K mg base "turns_alike" 3 ["one", "other"] (sp_al K) := cal_fn W.al alF fun _ _ _ _ _ _ us hl => match us, hl with | [_, _], _ => rfl
  have alK : CalK P w K mg base "turns_alike" 3 ["one", "other"] ["one", "other"] (fun l => l) (sp_al K) := calK_fn (fun l => l) W.al alF (fun r => r) fun _ _ _ _ _ _ ws hl => match ws, hl with | [_, _], _ => rfl
  have pour : Cal P w K mg base "_law_pour" 1 ["_law_jug_here", "_law_many"] sp_pour := cal_fn W.pour (ok_pour W.mint) fun _ _ _ _ _ _ us hl => match us, hl with | [_, _], _ => rfl
  have led : Cal P w K mg base "_law_led" 1 ["_law_size", "_law_turns_here", "_law_scroll"] (sp_led K) := cal_fn W.led (ok_led W.mmax W.mmin) fun _ _ _ _ _ _ us hl => match us, hl with | [_, _, _], _ => rfl
  have gre : Cal P w K mg base "_law_greatest" 1 ["_law_turns_here"] sp_gre := cal_fn W.gre (ok_gre W.mmax W.mabs) fun _ _ _ _ _ _ us hl => match us, hl with | [_], _ => rfl
  have same : Cal P w K mg base "_law_same" 2 ["_law_one", "_law_other", "_law_most"] (sp_same K) := cal_fn W.same (ok_same W.mrange led) fun _ _ _ _ _ _ us hl => match us, hl with | [_, _, _], _ => rfl
  have isf : Cal P w K mg base "_law_is_form" 1 ["_law_form"] (sp_isf K) := cal_fn W.isf (ok_isf W.menum W.mabs) fun _ _ _ _ _ _ us hl => match us, hl with | [_], _ => rfl
  exact ok_law
    { mr := W.mrange, ml := W.mlen, mmin := W.mmin, mmax := W.mmax, mi := W.misi, mb := W.mbool
      ej := cal_fn W.jug (ok_jug W.mlen W.mmax) fun _ _ _ _ _ _ us hl => match us, hl with | [_, _], _ => rfl
      e0 := pour
      et := cal_fn W.turns (ok_turns W.mrange pour) fun _ _ _ _ _ _ us hl => match us, hl with | [_, _, _], _ => rfl
      ec := cal_fn W.chg (ok_chg W.mlen W.mabs pour) fun _ _ _ _ _ _ us hl => match us, hl with | [_, _], _ => rfl
      ef := cal_fn W.fr (ok_fr W.mlen W.mlist W.mmin W.misi sf sfK is_ isK isf same gre) fun _ _ _ _ _ _ us hl => match us, hl with | [_, _], _ => rfl
      es := sf
      ea := al
      eaK := alK
      eg := gre
      em := same }
end
theorem walk {l : PySem.W.OpenLaw} {q : Program} {loose : List Str} {XP : (Str → Option Value) → Heap → Prop} {YP : World → Heap → Prop} {d : DefRec} {K : Params → PySem.W.Frag} (hn : l.most = some 63) (hdf : d.params.defaults = [])
    (hY : ∀ (w : World) (h : Heap), YP w h → (K w.params).In h)
    (F : ∀ (w : World) (mg : Str → Option Value) (fa : Addr) (h : Heap), (K w.params).In h → h.Ns mainGlobals mg → mg d.name = some (.ref fa) → ∃ fd, Fun (K w.params) "law" "law" s_law fa fd ∧ Facts (K w.params) mg) :
    PySem.W.WalkO q loose XP YP l.row.toRowW d [] (fun f vs => PySem.call f vs) :=
  L2.walk_of (n := 63) (k := 5) (x := "_law_script") (CX := fun _ => CX0) (sp := fun w => sp_law (K w.params)) hn (by decide) hdf ⟨rfl, by decide, by decide⟩ hY
    (fun w mg fa h KX G hmg => by
      obtain ⟨fd, Fl, W⟩ := F w mg fa h KX G hmg
      refine ⟨fd, fun s v => ?_, fun base _ _ => all_ok W _ _ Fl⟩
      obtain ⟨oc, od, kV, doc, pm, an, cdv, ct, osl, rfl, lk, hcd⟩ := Fl.ex
      exact .of_eq rfl)
    (fun _ _ a ns hl _ hS => ⟨a, ns, rfl, hS, hl, fun _ => rfl⟩) fun _ _ _ _ _ z => z
end K37
namespace K37
open PySem L2 Evl Lw
theorem all_mk {K : PySem.W.Frag} {mg : Str → Option Value} {h : Heap} {fa  : Addr} (X : K.In h) (G : h.Ns mainGlobals mg) (hfa : mg "law" = some (.ref fa)) (xlaw : FnK K "law" s_law)
    (x_sf : FnK K "short_form" s_sf)
    (x_su : FnK K "_summed" s_su)
    (x_sh : FnK K "_shorter" s_sh)
    (x_is_ : FnK K "is_short" s_is)
    (x_al : FnK K "turns_alike" s_al)
    (x_jug : FnK K "_law_jug" s_jug)
    (x_pour : FnK K "_law_pour" s_pour)
    (x_turns : FnK K "_law_turns" s_turns)
    (x_led : FnK K "_law_led" s_led)
    (x_gre : FnK K "_law_greatest" s_gre)
    (x_same : FnK K "_law_same" s_same)
    (x_isf : FnK K "_law_is_form" s_isf)
    (x_chg : FnK K "_law_changed" s_chg)
    (x_fr : FnK K "_law_form_right" s_fr)
    (n_mmax : PySem.W.nsIn K mainGlobals "max" = some none)
    (n_mmin : PySem.W.nsIn K mainGlobals "min" = some none)
    (n_mrange : PySem.W.nsIn K mainGlobals "range" = some none)
    (n_mlen : PySem.W.nsIn K mainGlobals "len" = some none)
    (n_mlist : PySem.W.nsIn K mainGlobals "list" = some none)
    (n_mint : PySem.W.nsIn K mainGlobals "int" = some none)
    (n_mabs : PySem.W.nsIn K mainGlobals "abs" = some none)
    (n_msum : PySem.W.nsIn K mainGlobals "sum" = some none)
    (n_menum : PySem.W.nsIn K mainGlobals "enumerate" = some none)
    (n_misi : PySem.W.nsIn K mainGlobals "isinstance" = some none)
    (n_mbool : PySem.W.nsIn K mainGlobals "bool" = some none)
    : ∃ fd, Fun K "law" "law" s_law fa fd ∧ Facts K mg  := by
  obtain ⟨fl, fdl, Fl, hl⟩ := xlaw.fn X G
  have e := hfa.symm.trans hl
  cases e
  exact ⟨fdl, Fl,
    { sf := x_sf.fn X G, su := x_su.fn X G, sh := x_sh.fn X G, is_ := x_is_.fn X G, al := x_al.fn X G, jug := x_jug.fn X G, pour := x_pour.fn X G, turns := x_turns.fn X G, led := x_led.fn X G, gre := x_gre.fn X G, same := x_same.fn X G, isf := x_isf.fn X G, chg := x_chg.fn X G, fr := x_fr.fn X G, mmax := PySem.W.mg_none_of X G n_mmax, mmin := PySem.W.mg_none_of X G n_mmin, mrange := PySem.W.mg_none_of X G n_mrange, mlen := PySem.W.mg_none_of X G n_mlen, mlist := PySem.W.mg_none_of X G n_mlist, mint := PySem.W.mg_none_of X G n_mint, mabs := PySem.W.mg_none_of X G n_mabs, msum := PySem.W.mg_none_of X G n_msum, menum := PySem.W.mg_none_of X G n_menum, misi := PySem.W.mg_none_of X G n_misi, mbool := PySem.W.mg_none_of X G n_mbool }⟩
end K37
open PySem PySem.W PyProof.Rows in
set_option maxRecDepth 100000 in
set_option maxHeartbeats 0 in
theorem PySem.Challenge.cw_listwindow_k37_short_forms_in_all_rooms_holds : PySem.Challenge.rw_listwindow_k37_short_forms_in_all_rooms.Holds := by
  w_on; o_law; k_head; (case hw => w_witness2)
  k_fill
  refine K37.walk (l := PySem.Challenge.rw_listwindow_k37_short_forms_in_all_rooms) rfl rfl (fun w h Y => PySem.W.kIn_of Y) ?F
  case F =>
    intro w mg fa h KX G hmg
    refine' K37.all_mk KX G hmg ?xlaw ?x_sf ?x_su ?x_sh ?x_is_ ?x_al ?x_jug ?x_pour ?x_turns ?x_led ?x_gre ?x_same ?x_isf ?x_chg ?x_fr ?n_mmax ?n_mmin ?n_mrange ?n_mlen ?n_mlist ?n_mint ?n_mabs ?n_msum ?n_menum ?n_misi ?n_mbool
    (case xlaw => (refine' Lw.fnK_mk ?a ?l ?c ?k; (case a => k_is); (case l => k_is); (case c => k_is); (case k => k_is)))
    (case x_sf => (refine' Lw.fnK_mk ?a ?l ?c ?k; (case a => k_is); (case l => k_is); (case c => k_is); (case k => k_is)))
    (case x_su => (refine' Lw.fnK_mk ?a ?l ?c ?k; (case a => k_is); (case l => k_is); (case c => k_is); (case k => k_is)))
    (case x_sh => (refine' Lw.fnK_mk ?a ?l ?c ?k; (case a => k_is); (case l => k_is); (case c => k_is); (case k => k_is)))
    (case x_is_ => (refine' Lw.fnK_mk ?a ?l ?c ?k; (case a => k_is); (case l => k_is); (case c => k_is); (case k => k_is)))
    (case x_al => (refine' Lw.fnK_mk ?a ?l ?c ?k; (case a => k_is); (case l => k_is); (case c => k_is); (case k => k_is)))
    (case x_jug => (refine' Lw.fnK_mk ?a ?l ?c ?k; (case a => k_is); (case l => k_is); (case c => k_is); (case k => k_is)))
    (case x_pour => (refine' Lw.fnK_mk ?a ?l ?c ?k; (case a => k_is); (case l => k_is); (case c => k_is); (case k => k_is)))
    (case x_turns => (refine' Lw.fnK_mk ?a ?l ?c ?k; (case a => k_is); (case l => k_is); (case c => k_is); (case k => k_is)))
    (case x_led => (refine' Lw.fnK_mk ?a ?l ?c ?k; (case a => k_is); (case l => k_is); (case c => k_is); (case k => k_is)))
    (case x_gre => (refine' Lw.fnK_mk ?a ?l ?c ?k; (case a => k_is); (case l => k_is); (case c => k_is); (case k => k_is)))
    (case x_same => (refine' Lw.fnK_mk ?a ?l ?c ?k; (case a => k_is); (case l => k_is); (case c => k_is); (case k => k_is)))
    (case x_isf => (refine' Lw.fnK_mk ?a ?l ?c ?k; (case a => k_is); (case l => k_is); (case c => k_is); (case k => k_is)))
    (case x_chg => (refine' Lw.fnK_mk ?a ?l ?c ?k; (case a => k_is); (case l => k_is); (case c => k_is); (case k => k_is)))
    (case x_fr => (refine' Lw.fnK_mk ?a ?l ?c ?k; (case a => k_is); (case l => k_is); (case c => k_is); (case k => k_is)))
    (case n_mmax => k_is)
    (case n_mmin => k_is)
    (case n_mrange => k_is)
    (case n_mlen => k_is)
    (case n_mlist => k_is)
    (case n_mint => k_is)
    (case n_mabs => k_is)
    (case n_msum => k_is)
    (case n_menum => k_is)
    (case n_misi => k_is)
    (case n_mbool => k_is)
