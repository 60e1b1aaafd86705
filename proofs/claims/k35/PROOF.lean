import PyProof.Rows.All
import Wide.All
import OpenK.AllK
import Wide.FinOn
import HandS.ForMost
import HandS.Evl
import HandS.Walk
import HandS.Defaults
import HandS.Property
import HandS.Style
import HandS.Flow
import HandS.IsInst
import HandS.Conv
import HandS.Wide
import HandS.OwnEq
import HandS.EndBits
import KE.KFmtOwn
import HandS.SortKw
import HandS.DictComp
import HandS.More
import HandS.TupAny
import HandS.Zip
import HandS.Exc
import HandS.ExcOwn
import HandS.ExcInit
import HandS.ExcField
import HandS.WordsExc
import HandS.SortInts
import PyProof.Rows.RuleB_pow
import HandS.CallLocal
import HandS.TryMany
import HandS.WideMore
import PySem.Challenge.RW_listwindow_k35_effects_on_all_scrolls
set_option Elab.async false
set_option linter.all false
set_option maxRecDepth 100000
set_option maxHeartbeats 4000000
/-! Readings that choose their rule when the values are known; what is known of the heap, and what grows. -/
namespace Lw
open PySem PySem.Spec L2 Evl

/-! ### judgements with the rule left open -/
def WE (X : Cx) (e : Expr) : TE := fun σ H Q => ∃ t, PE X e t ∧ t σ H Q
def WT (X : Cx) (e : Expr) : TT := fun σ H Q => ∃ t, PT X e t ∧ t σ H Q
def WB (X : Cx) (e : Expr) : TT := fun σ H Q => ∃ t, PW X e t ∧ t σ H Q
def WA (X : Cx) (es : List Expr) : TA := fun σ H Q => ∃ t, PA X es t ∧ t σ H Q
def WK (X : Cx) (ks : List Keyword) : TA := fun σ H Q => ∃ t, PK X ks t ∧ t σ H Q
def WS (X : Cx) (s : Stmt) : TS := fun D σ H => ∃ t, PS X s t ∧ t D σ H
def WSs (X : Cx) (s : List Stmt) : TS := fun D σ H => ∃ t, PSs X s t ∧ t D σ H
def WG (X : Cx) (tg : Expr) : TG := fun v σ H Q => ∃ t, PG X tg t ∧ t v σ H Q
def WGs (X : Cx) (tgs : List Expr) : TGs := fun v σ H Q => ∃ t, PGs X tgs t ∧ t v σ H Q
def WI (X : Cx) (tg it : Expr) : TI := fun σ H R => ∃ t, PI X tg it t ∧ t σ H R
def WO (X : Cx) (e : Option Expr) : TO := fun σ H Q => ∃ t, PO X e t ∧ t σ H Q
def WTs (X : Cx) (es : List Expr) : TT := fun σ H Q => ∃ t, PTs X es t ∧ t σ H Q
section
variable {X : Cx} {e tg : Expr} {es : List Expr} {s : Stmt} {ss : List Stmt} {ks : List Keyword} {o : Option Expr}
theorem WE.pe : PE X e (WE X e) := ⟨fun pins s σ H Q I h => by obtain ⟨t, h1, h2⟩ := h; exact h1.run pins s σ H Q I h2⟩
theorem WT.pt : PT X e (WT X e) := ⟨fun pins s σ H Q I h => by obtain ⟨t, h1, h2⟩ := h; exact h1.run pins s σ H Q I h2⟩
theorem WB.pw : PW X e (WB X e) := ⟨fun wh pins s σ H Q I h => by obtain ⟨t, h1, h2⟩ := h; exact h1.run wh pins s σ H Q I h2⟩
theorem WA.pa : PA X es (WA X es) := ⟨fun pos pins s σ H Q I h => by obtain ⟨t, h1, h2⟩ := h; exact h1.run pos pins s σ H Q I h2⟩
theorem WK.pk : PK X ks (WK X ks) := ⟨fun pos pins s σ H Q I h => by obtain ⟨t, h1, h2⟩ := h; exact h1.run pos pins s σ H Q I h2⟩
theorem WS.ps : PS X s (WS X s) := ⟨fun pins s σ H D I h => by obtain ⟨t, h1, h2⟩ := h; exact h1.run pins s σ H D I h2⟩
theorem WSs.pss : PSs X ss (WSs X ss) := ⟨fun pins s σ H D I h => by obtain ⟨t, h1, h2⟩ := h; exact h1.run pins s σ H D I h2⟩
theorem WG.pg : PG X tg (WG X tg) := ⟨fun pins s σ H v u Q I r h => by obtain ⟨t, h1, h2⟩ := h; exact h1.run pins s σ H v u Q I r h2⟩
theorem WGs.pgs : PGs X es (WGs X es) := ⟨fun pins s σ H v u Q I r h => by obtain ⟨t, h1, h2⟩ := h; exact h1.run pins s σ H v u Q I r h2⟩
theorem WI.pi : PI X tg e (WI X tg e) := ⟨fun pins s σ H R I h => by obtain ⟨t, h1, h2⟩ := h; exact h1.run pins s σ H R I h2⟩
theorem WO.po : PO X o (WO X o) := ⟨fun pins s σ H Q I h => by obtain ⟨t, h1, h2⟩ := h; exact h1.run pins s σ H Q I h2⟩
theorem WTs.pts : PTs X es (WTs X es) := ⟨fun pins s σ H Q I h => by obtain ⟨t, h1, h2⟩ := h; exact h1.run pins s σ H Q I h2⟩
end

/-! ### expressions -/
section
variable {X : Cx} {σ : L2.St} {H : Hp} {Q : VK} {a b c e : Expr} {pos p2 : Pos} {x : Str} {v : V} {r r2 : R2}
theorem e_name (i : Nat) (hN : X.N[i]? = some x := by rfl) (hs : σ[i]? = some (some v) := by rfl) (hv : Vis X.env.scope x := by first | exact Or.inl rfl | exact Or.inr (Or.inl rfl) | exact Or.inr (Or.inr rfl)) (hd : (x == ("__debug__" : Str)) = false := by decide)
    (hcd : (x == ("__classdict__" : Str)) = false := by decide) (q : Q v H) : WE X (.Name x pos) σ H Q := ⟨_, pe_var hN hv hd hcd, v, hs, q⟩
theorem e_glob {u : Value} (hm : X.mg x = some u) (rv : RelV v u) (hg : Gl X x := by rfl) (hd : (x == ("__debug__" : Str)) = false := by decide) (q : Q v H) : WE X (.Name x pos) σ H Q := ⟨_, pe_glob hg hm rv hd, q⟩
theorem e_bltn {u : Value} (hm : X.mg x = none) (hv : bootBuiltins x = some u) (rv : RelV v u) (hg : Gl X x := by rfl) (hn : x ≠ "__name__" := by decide) (hd : (x == ("__debug__" : Str)) = false := by decide) (q : Q v H) : WE X (.Name x pos) σ H Q := ⟨_, pe_bltn hg hm hv rv hn hd, q⟩
theorem e_int {i j} (q : Q (.int i) H) : WE X (.Constant (.int i) j pos) σ H Q := ⟨_, pe_int, q⟩
theorem e_bl {i j} (q : Q (.bl i) H) : WE X (.Constant (.bool i) j pos) σ H Q := ⟨_, pe_bl, q⟩
theorem e_non {j} (q : Q .non H) : WE X (.Constant .none j pos) σ H Q := ⟨_, pe_non, q⟩
theorem e_str {i j} (q : Q (.str i) H) : WE X (.Constant (.str i) j pos) σ H Q := ⟨_, pe_str, q⟩
theorem e_bin {op : Operator} (ho : OpR X (binaryOp op) r) (h : WE X a σ H fun x H1 => WE X b σ H1 fun y H2 => r x y H2 Q) : WE X (.BinOp a op b pos) σ H Q := ⟨_, pe_op ho WE.pe WE.pe, h⟩
theorem e_cmp {op : CmpOp} (ho : OpR X (compareOp op) r) (hm : behindInMarks op b = false := by first | exact nomark _ | rfl) (h : WE X a σ H fun x H1 => WE X b σ H1 fun y H2 => r x y H2 Q) : WE X (.Compare a [op] [b] pos) σ H Q := ⟨_, pe_cmpR ho WE.pe WE.pe hm, h⟩
theorem e_neg (h : WE X a σ H fun x H1 => ∃ i, x = .int i ∧ Q (.int (-i)) H1) : WE X (.UnaryOp .USub a pos) σ H Q := ⟨_, pe_un un_neg WE.pe, h⟩
theorem e_add (h : WE X a σ H fun x H1 => WE X b σ H1 fun y H2 => ∃ i j, x = .int i ∧ y = .int j ∧ Q (.int (i + j)) H2) : WE X (.BinOp a .Add b pos) σ H Q := e_bin op_add h
theorem e_sub (h : WE X a σ H fun x H1 => WE X b σ H1 fun y H2 => ∃ i j, x = .int i ∧ y = .int j ∧ Q (.int (i - j)) H2) : WE X (.BinOp a .Sub b pos) σ H Q := e_bin op_sub h
theorem e_mul (h : WE X a σ H fun x H1 => WE X b σ H1 fun y H2 => ∃ i j, x = .int i ∧ y = .int j ∧ CMulW i j ∧ Q (.int (i * j)) H2) : WE X (.BinOp a .Mult b pos) σ H Q := e_bin op_mulW h
theorem e_mod (h : WE X a σ H fun x H1 => WE X b σ H1 fun y H2 => ∃ i j, x = .int i ∧ y = .int j ∧ 0 < j ∧ Q (.int (i % j)) H2) : WE X (.BinOp a .Mod b pos) σ H Q := e_bin op_mod h
theorem e_fdiv (h : WE X a σ H fun x H1 => WE X b σ H1 fun y H2 => ∃ i j, x = .int i ∧ y = .int j ∧ CDivW i j ∧ Q (.int (i / j)) H2) : WE X (.BinOp a .FloorDiv b pos) σ H Q := e_bin op_fdivW h
theorem e_pow (h : WE X a σ H fun x H1 => WE X b σ H1 fun y H2 => ∃ i j, x = .int i ∧ y = .int j ∧ CPow i j ∧ Q (.int (i ^ j.toNat)) H2) : WE X (.BinOp a .Pow b pos) σ H Q := e_bin op_pow h
theorem e_if {t : Expr} (h : WT X t σ H fun k H1 => if k = true then WE X a σ H1 Q else WE X b σ H1 Q) : WE X (.IfExp t a b pos) σ H Q := ⟨_, pe_ifExp WT.pt WE.pe WE.pe, h⟩
theorem e_and {rest : List Expr} (h : WE X a σ H fun x H1 => ∃ c, x = .bl c ∧ if c = true then WE X (.BoolOp .And (b :: rest) pos) σ H1 Q else Q (.bl false) H1) : WE X (.BoolOp .And (a :: b :: rest) pos) σ H Q := ⟨_, pe_and WE.pe WE.pe, h⟩
theorem e_or {rest : List Expr} (h : WE X a σ H fun x H1 => ∃ c, x = .bl c ∧ if c = true then Q (.bl true) H1 else WE X (.BoolOp .Or (b :: rest) pos) σ H1 Q) : WE X (.BoolOp .Or (a :: b :: rest) pos) σ H Q := ⟨_, pe_or WE.pe WE.pe, h⟩
theorem e_one {op} (h : WE X a σ H Q) : WE X (.BoolOp op [a] pos) σ H Q := ⟨_, pe_one WE.pe, h⟩
theorem e_not (h : WE X a σ H fun x H1 => ∃ c, x = .bl c ∧ Q (.bl (!c)) H1) : WE X (.UnaryOp .Not a pos) σ H Q := ⟨_, pe_not WE.pe, h⟩
theorem e_lst {es : List Expr} (h : WA X es σ H fun xs H1 => xs.length ≤ sizeLine ∧ ∀ p, H1 p = none → Q (.ref p) (upd H1 p (.lst xs))) : WE X (.List es pos) σ H Q := ⟨_, pe_lst WA.pa, h⟩
theorem e_tup {es : List Expr} {k : Nat} (h : WA X es σ H fun xs H1 => xs.length ≤ sizeLine ∧ ∀ p, H1 p = none → Q (.ref p) (upd H1 p (.tup xs))) : WE X (.Tuple es k pos) σ H Q := ⟨_, pe_tup WA.pa, h⟩
theorem e_ixL (hs : PlainIx b := by exact fun _ _ => rfl) (h : WE X a σ H fun x H1 => WE X b σ H1 fun y H2 => ∃ p xs i v, x = .ref p ∧ y = .int i ∧ SqL X.K H2 p xs ∧ atI xs i = some v ∧ Q v H2) : WE X (.Subscript a b pos) σ H Q := ⟨_, pe_ix ix_list WE.pe WE.pe hs, h⟩
theorem e_ixT (hs : PlainIx b := by exact fun _ _ => rfl) (h : WE X a σ H fun x H1 => WE X b σ H1 fun y H2 => ∃ p xs i v, x = .ref p ∧ y = .int i ∧ SqT X.K H2 p xs ∧ atI xs i = some v ∧ Q v H2) : WE X (.Subscript a b pos) σ H Q := ⟨_, pe_ix ix_tup WE.pe WE.pe hs, h⟩
theorem e_fld {f : Str} (hb : attributeBase e f X.env (eval e X.env) = eval e X.env := by rfl) (h : WE X e σ H fun x H1 => ∃ a C dx fs v, x = .ref a ∧ H1 a = some (.ins C dx fs) ∧ Cls X.K C ∧ NoAttr X.K C f ∧ fs.lookup f = some v ∧ Q v H1) : WE X (.Attribute e f pos) σ H Q := ⟨_, pe_fld WE.pe hb, h⟩
theorem e_slice {lo hi : Option Expr} (h : WE X a σ H fun x H1 => WO X lo σ H1 fun i H2 => WO X hi σ H2 fun j H3 => ∃ a xs, x = .ref a ∧ SqL X.K H3 a xs ∧ ∀ p, H3 p = none → Q (.ref p) (upd H3 p (.lst (cutV xs i j)))) : WE X (.Subscript a (.Slice lo hi none p2) pos) σ H Q := ⟨_, pe_slice sl_list WE.pe WO.po WO.po, h⟩
theorem o_none {Q : Option Int → Hp → Prop} (q : Q none H) : WO X none σ H Q := ⟨_, po_none, q⟩
theorem o_some {Q : Option Int → Hp → Prop} (h : WE X e σ H fun x H1 => ∃ i, x = .int i ∧ Q (some i) H1) : WO X (some e) σ H Q := ⟨_, po_some WE.pe, h⟩
/-- a built-in by its name -/
theorem e_blt {id : String} {rc : List V → Hp → VK → Prop} {es : List Expr} (hc : CallR X (.builtin id) rc) (hm : X.mg x = none) (hv : bootBuiltins x = some (.builtin id)) (h : WA X (e :: es) σ H fun vs H1 => rc vs H1 Q)
    (hg : Gl X x := by rfl) (hn : x ≠ "__name__" := by decide) (hd : (x == ("__debug__" : Str)) = false := by decide) (he : starEach (e :: es) X.env = (false, eval e X.env) :: starEach es X.env := by rfl) (hpl : (backTo pos (starEach es X.env)).any (·.1) = false := by rfl) : WE X (.Call (.Name x p2) (e :: es) [] pos) σ H Q :=
  ⟨_, pe_callB hc hg hm hv WA.pa hn hd he hpl, h⟩
end
section
variable {X : Cx} {σ : L2.St} {H : Hp} {Q : VK} {a b c e : Expr} {pos p2 : Pos} {x : Str} {v : V} {r r2 : R2} {es : List Expr} {QA : List V → Hp → Prop} {QT : Bool → Hp → Prop}
theorem e_ty {T : String} {rc : List V → Hp → VK → Prop} (hc : CallR X (.type T) rc) (hm : X.mg x = none) (hv : bootBuiltins x = some (.type T)) (h : WA X (e :: es) σ H fun vs H1 => rc vs H1 Q)
    (hg : Gl X x := by rfl) (hn : x ≠ "__name__" := by decide) (hd : (x == ("__debug__" : Str)) = false := by decide) (he : starEach (e :: es) X.env = (false, eval e X.env) :: starEach es X.env := by rfl) (hpl : (backTo pos (starEach es X.env)).any (·.1) = false := by rfl) : WE X (.Call (.Name x p2) (e :: es) [] pos) σ H Q :=
  ⟨_, pe_callTy hc hg hm hv WA.pa hn hd he hpl, h⟩
theorem a_nil (q : QA [] H) : WA X [] σ H QA := ⟨_, pa_nil, q⟩
theorem a_cons (hp : starEach (e :: es) X.env = (false, eval e X.env) :: starEach es X.env := by rfl) (h : WE X e σ H fun x H1 => WA X es σ H1 fun xs H2 => QA (x :: xs) H2) : WA X (e :: es) σ H QA := ⟨_, pa_cons WE.pe WA.pa hp, h⟩
theorem k_nil (q : QA [] H) : WK X [] σ H QA := ⟨_, pk_nil, q⟩
theorem k_cons {nm : Option Str} {kp : Pos} {ks : List Keyword} (h : WE X e σ H fun x H1 => WK X ks σ H1 fun xs H2 => QA (x :: xs) H2) : WK X (⟨nm, e, kp⟩ :: ks) σ H QA := ⟨_, pk_cons WE.pe WK.pk, h⟩

/-! ### tests -/
theorem t_val (h : WE X e σ H fun x H1 => ∃ k, x = .bl k ∧ QT k H1) (he : ∀ whole, isTrue e X.env whole = (do let v ← whole; standAt e.pos; holding [v] (truthy v)) := by intro _; rfl) : WT X e σ H QT := ⟨_, pt_val WE.pe he, h⟩
theorem t_tru (h : WE X e σ H fun x H1 => ∃ k, TruV X.K x H1 k ∧ QT k H1) (he : ∀ whole, isTrue e X.env whole = (do let v ← whole; standAt e.pos; holding [v] (truthy v)) := by intro _; rfl) : WT X e σ H QT := ⟨_, pt_truth WE.pe he, h⟩
theorem t_cmp {op : CmpOp} (ho : OpR X (compareOp op) r) (hm : behindInMarks op b = false := by first | exact nomark _ | rfl) (h : WE X a σ H fun x H1 => WE X b σ H1 fun y H2 => r x y H2 fun z H3 => ∃ k, z = .bl k ∧ QT k H3) : WT X (.Compare a [op] [b] pos) σ H QT := ⟨_, pt_cmpR ho WE.pe WE.pe hm, h⟩
theorem t_chain {op op' : CmpOp} {r' : R2} (ho : OpR X (compareOp op) r) (ho' : OpR X (compareOp op') r') (hm : lastMarks [op, op'] [b, c] = false := by with_unfolding_all rfl) (h : WE X a σ H fun x H1 => WE X b σ H1 fun y H2 => r x y H2 fun z H3 => ∃ k, z = .bl k ∧ (if k = true then WE X c σ H3 (fun w H4 => r' y w H4 fun z H5 => ∃ k, z = .bl k ∧ QT k H5) else ∃ k', V.bl false = .bl k' ∧ QT k' H3)) : WT X (.Compare a [op, op'] [b, c] pos) σ H QT := ⟨_, pt_chain ho ho' WE.pe WE.pe WE.pe hm, by
    show WE X a σ H fun x H1 => WE X b σ H1 fun y H2 => r x y H2 fun z H3 => ∃ k, z = .bl k ∧ (if k = true then WE X c σ H3 (fun w H4 => r' y w H4 fun z H5 => ∃ k, z = .bl k ∧ QT k H5) else (fun (x : V) H' => ∃ k, x = V.bl k ∧ QT k H') (.bl false) H3)
    exact h⟩
theorem t_not (h : WT X a σ H fun k H1 => QT (!k) H1) : WT X (.UnaryOp .Not a pos) σ H QT := ⟨_, pt_not WT.pt, h⟩
theorem t_wb (h : WB X e σ H QT) : WT X e σ H QT := ⟨_, WB.pw.pt, h⟩
theorem b_and {rest : List Expr} (h : WT X a σ H fun k H1 => if k = true then WB X (.BoolOp .And (b :: rest) pos) σ H1 QT else QT false H1) : WB X (.BoolOp .And (a :: b :: rest) pos) σ H QT := ⟨_, pw_and WT.pt WB.pw, h⟩
theorem b_or {rest : List Expr} (h : WT X a σ H fun k H1 => if k = true then QT true H1 else WB X (.BoolOp .Or (b :: rest) pos) σ H1 QT) : WB X (.BoolOp .Or (a :: b :: rest) pos) σ H QT := ⟨_, pw_or WT.pt WB.pw, h⟩
theorem b_and1 (h : WT X a σ H QT) : WB X (.BoolOp .And [a] pos) σ H QT := ⟨_, pw_and1 WT.pt, h⟩
theorem b_or1 (h : WT X a σ H QT) : WB X (.BoolOp .Or [a] pos) σ H QT := ⟨_, pw_or1 WT.pt, h⟩

/-! ### targets -/
theorem g_name (i : Nat) {QG : L2.St → Hp → Prop} (hN : X.N.Nodup) (hi : X.N[i]? = some x := by rfl) (hx : Loc X.env.scope x := by first | exact Or.inl rfl | exact Or.inr rfl) (hf : X.fn x = true ∨ X.env.scope.names.lookup x = some .local := by first | exact .inl rfl | exact .inr rfl | assumption) (q : QG (σ.set i (some v)) H) : WG X (.Name x pos) v σ H QG := ⟨_, pg_name hN hi hx hf, q⟩
theorem gs_nil {QG : L2.St → Hp → Prop} (q : QG σ H) : WGs X [] [] σ H QG := ⟨_, pgs_nil, rfl, q⟩
theorem gs_cons {QG : L2.St → Hp → Prop} {vs : List V} (hs : (assignEach (e :: es) X.env).map (·.2) = assign e X.env :: (assignEach es X.env).map (·.2) := by rfl) (h : WG X e v σ H fun σ' H' => WGs X es vs σ' H' QG) : WGs X (e :: es) (v :: vs) σ H QG := ⟨_, pgs_cons WG.pg WGs.pgs hs, v, vs, rfl, h⟩
theorem g_tup {QG : L2.St → Hp → Prop} {k n : Nat} {p : Addr} {vs : List V} (hq : SqT X.K H p vs) (hl : vs.length = n) (hc : X.calm = true := by rfl) (hn : (assignEach es X.env).length = n := by rfl) (hst : (assignEach es X.env).findIdx? (·.1) = none := by rfl) (h : WGs X es vs σ H QG) : WG X (.Tuple es k pos) (.ref p) σ H QG := ⟨_, pg_tup hc WGs.pgs hn hst, p, vs, rfl, hq, hl, h⟩

/-! ### statements -/
variable {D : Ends} {st : Stmt} {rest body orelse : List Stmt}
theorem s_nil (q : D.nx σ H) : WSs X [] D σ H := ⟨_, pss_nil, q⟩
theorem s_cons (h : WS X st { D with nx := WSs X rest D } σ H) : WSs X (st :: rest) D σ H := ⟨_, pss_cons WS.ps WSs.pss, h⟩
theorem s_one (h : WS X st D σ H) : WSs X [st] D σ H := ⟨_, pss_one WS.ps, h⟩
theorem s_pass (q : D.nx σ H) : WS X (.Pass pos) D σ H := ⟨_, ps_pass, q⟩
theorem s_break (q : D.bk σ H) : WS X (.Break pos) D σ H := ⟨_, ps_break, q⟩
theorem s_cont (q : D.ct σ H) : WS X (.Continue pos) D σ H := ⟨_, ps_continue, q⟩
theorem s_expr (hs : swapsWith e none pos.line X.env = pure false := by rfl) (h : WE X e σ H fun _ H1 => D.nx σ H1) : WS X (.Expr e pos) D σ H := ⟨_, ps_expr WE.pe hs, h⟩
theorem s_ret (h : WE X e σ H D.rt) : WS X (.Return (some e) pos) D σ H := ⟨_, ps_ret WE.pe, h⟩
theorem s_retN (h : D.rt .non H) : WS X (.Return none pos) D σ H := ⟨_, ps_retN, h⟩
theorem s_if (h : WT X c σ H fun k H1 => if k = true then WSs X body D σ H1 else WSs X orelse D σ H1) : WS X (.If c body orelse pos) D σ H := ⟨_, ps_if WT.pt WSs.pss WSs.pss, h⟩
theorem s_set (i : Nat) (hN : X.N.Nodup) (hi : X.N[i]? = some x := by rfl) (hx : Loc X.env.scope x := by first | exact Or.inl rfl | exact Or.inr rfl) (hs : swapsWith e (some (.Name x p2)) pos.line X.env = pure false := by rfl)
    (hf : X.fn x = true ∨ X.env.scope.names.lookup x = some .local := by first | exact .inl rfl | exact .inr rfl | assumption) (h : WE X e σ H fun v H1 => D.nx (σ.set i (some v)) H1) : WS X (.Assign [.Name x p2] e pos) D σ H := ⟨_, ps_set hN hi hx WE.pe hs hf, h⟩
theorem s_asg {tg : Expr} (hs : swapsWithSole [tg] e pos.line X.env = pure false := by rfl) (hw : swappedStores [tg] e X.env = pure none := by rfl) (h1 : (assignEach [tg] X.env).map (·.2) = [assign tg X.env] := by rfl)
    (h : WE X e σ H fun v H1 => WG X tg v σ H1 D.nx) : WS X (.Assign [tg] e pos) D σ H := ⟨_, ps_asg WE.pe WG.pg hs hw h1, h⟩
theorem s_par (i j : Nat) {x y : Str} {px py pt : Pos} {kt k2 pt2} (hN : X.N.Nodup) (hij : i ≠ j := by decide) (hc : X.calm = true := by rfl) (hi : X.N[i]? = some x := by rfl) (hj : X.N[j]? = some y := by rfl)
    (hx : X.env.scope.names.lookup x = some .local := by rfl) (hy : X.env.scope.names.lookup y = some .local := by rfl) (hw : swappedStores [.Tuple [.Name x px, .Name y py] kt pt] (.Tuple [a, b] k2 pt2) X.env = pure (some [x, y]) := by rfl)
    (hs : swapsWithSole [.Tuple [.Name x px, .Name y py] kt pt] (.Tuple [a, b] k2 pt2) pos.line X.env = pure false := by rfl)
    (h : WA X [a, b] σ H fun vs H1 => ∃ v w, vs = [v, w] ∧ D.nx ((σ.set i (some v)).set j (some w)) H1) : WS X (.Assign [.Tuple [.Name x px, .Name y py] kt pt] (.Tuple [a, b] k2 pt2) pos) D σ H := ⟨_, ps_par hc hN hi hj hij hx hy WA.pa hw hs, h⟩
theorem s_never (h : False) : WS X st D σ H := h.elim
theorem s_fld {f : Str} {o value : Expr} {pos' : Pos} (hs : swapsWith value (some (.Attribute o f pos')) pos.line X.env = pure false := by rfl) (h : sFld X.K (WE X o) (WE X value) f D σ H) : WS X (.Assign [.Attribute o f pos'] value pos) D σ H := ⟨_, ps_fld WE.pe WE.pe hs, h⟩
theorem s_sub {o i value : Expr} {spos : Pos} (h : WE X value σ H fun v H1 => WE X o σ H1 fun ov H2 => WE X i σ H2 fun iv H3 => ∃ p xs k j, ov = .ref p ∧ iv = .int k ∧ H3 p = some (.lst xs) ∧ ixN xs.length k = some j ∧ D.nx σ (upd H3 p (.lst (xs.set j v))))
    (ha : ∀ v, assign (.Subscript o i spos) X.env v = (do
      let ov ← holding [v] (eval o X.env)
      let iv ← holding [v, ov] (eval i X.env)
      standAt spos
      holding [v, ov, iv] (setItem ov iv v)
      release [v, ov, iv] []) := by intro _; rfl)
    (hs : swapsWithSole [.Subscript o i spos] value pos.line X.env = pure false := by rfl) (hw : swappedStores [.Subscript o i spos] value X.env = pure none := by rfl) (h1 : (assignEach [.Subscript o i spos] X.env).map (·.2) = [assign (.Subscript o i spos) X.env] := by rfl) :
    WS X (.Assign [.Subscript o i spos] value pos) D σ H := ⟨_, ps_asg WE.pe (pg_sub WE.pe WE.pe set_list ha) hs hw h1, h⟩

/-! ### loops -/
variable {tg iter : Expr}
def tForR (J : It) (g : TG) (tb : TS) (D : Ends) (σ : L2.St) (H : Hp) : Prop := ∃ W : Nat → Nat → L2.St → Hp → Prop, (∃ m, W 0 m σ H) ∧ ∀ i m σ H, W i m σ H →
  (J.stop i H ∧ D.nx σ H) ∨ (J.go i H ∧ ∃ N : L2.St → Hp → Prop, (∀ σ' H', N σ' H' → ∃ m', m' < m ∧ W (i + 1) m' σ' H') ∧ ∀ x H', J.yld i H x H' → g x σ H' fun σ2 H2 => tb { D with nx := N, ct := N, bk := D.nx } σ2 H2)
theorem s_for (hp : PassesOwn (model X.prog X.w) X.A X.env X.xe := by exact PassesOwn.never) (hc : X.calm = true := by rfl) (hs : ∀ x, foldedSetIterable iter X.env x = pure x := by intro _; rfl)
    (h : WI X tg iter σ H fun J H1 => tForR J (WG X tg) (WSs X body) D σ H1) : WS X (.For tg iter body [] pos) D σ H := ⟨_, ps_for hp hc WI.pi WG.pg WSs.pss hs, h⟩
variable {R : It → Hp → Prop}
theorem i_list (h : WE X e σ H fun x H1 => ∃ a, x = .ref a ∧ (∃ xs, SqL X.K H1 a xs) ∧ R (Itl X.K a) H1) : WI X tg e σ H R := ⟨_, pi_list WE.pe, h⟩
theorem i_tup (h : WE X e σ H fun x H1 => ∃ a, x = .ref a ∧ (∃ xs, SqT X.K H1 a xs) ∧ R (Itt X.K a) H1) : WI X tg e σ H R := ⟨_, pi_tup WE.pe, h⟩
theorem i_rng1 (hm : X.mg "range" = none) (hg : Gl X "range" := by rfl) (hs : starEach [a] X.env = [(false, eval a X.env)] := by rfl) (h : WE X a σ H fun x H1 => ∃ j : Int, x = .int j ∧ -(2 ^ 62) ≤ j ∧ j < 2 ^ 62 ∧ R (Itr 0 j.toNat) H1) : WI X tg (.Call (.Name "range" p2) [a] [] pos) σ H R :=
  ⟨_, pi_range1 hg hm (pa_cons WE.pe pa_nil (by rw [hs]; rfl)) hs, by
    obtain ⟨t, h1, h2⟩ := h
    show WE X a σ H fun x H1 => ∃ j : Int, [x] = [.int j] ∧ -(2 ^ 62) ≤ j ∧ j < 2 ^ 62 ∧ R (Itr 0 j.toNat) H1
    have e : (fun (x : V) (H1 : Hp) => ∃ j : Int, [x] = [V.int j] ∧ -(2 ^ 62) ≤ j ∧ j < 2 ^ 62 ∧ R (Itr 0 j.toNat) H1) = (fun x H1 => ∃ j : Int, x = .int j ∧ -(2 ^ 62) ≤ j ∧ j < 2 ^ 62 ∧ R (Itr 0 j.toNat) H1) := by
      funext x H1
      simp only [List.cons.injEq, and_true]
    rw [e]
    exact ⟨t, h1, h2⟩⟩
theorem i_rng2 (hm : X.mg "range" = none) (hg : Gl X "range" := by rfl) (hs : starEach [a, b] X.env = [(false, eval a X.env), (false, eval b X.env)] := by rfl) (hs2 : starEach [b] X.env = [(false, eval b X.env)] := by rfl)
    (h : WA X [a, b] σ H fun vs H1 => ∃ i j : Int, vs = [.int i, .int j] ∧ (-(2 ^ 62) ≤ i ∧ i < 2 ^ 62 ∧ -(2 ^ 62) ≤ j ∧ j < 2 ^ 62) ∧ R (Itr i (j - i).toNat) H1) : WI X tg (.Call (.Name "range" p2) [a, b] [] pos) σ H R := ⟨_, pi_range2 hg hm WA.pa hs hs2, h⟩
theorem i_enum {elts : List Expr} {kk : Nat} {tpos : Pos} (hm : X.mg "enumerate" = none) (hg : Gl X "enumerate" := by rfl) (hs : starEach [a] X.env = [(false, eval a X.env)] := by rfl)
    (h : WA X [a] σ H fun vs H1 => ∃ p xs, vs = [.ref p] ∧ SqL X.K H1 p xs ∧ R (Ite X.K p) H1) : WI X (.Tuple elts kk tpos) (.Call (.Name "enumerate" p2) [a] [] pos) σ H R := ⟨_, pi_enum hg hm WA.pa hs, h⟩
theorem i_zip {elts : List Expr} {kk : Nat} {tpos : Pos} (hm : X.mg "zip" = none) (hg : Gl X "zip" := by rfl) (hs : starEach [a, b] X.env = (false, eval a X.env) :: starEach [b] X.env := by rfl) (hpl : (backTo pos (starEach [b] X.env)).any (·.1) = false := by rfl)
    (h : WA X [a, b] σ H fun vs H1 => ∃ p q xs ys, vs = [.ref p, .ref q] ∧ SqL X.K H1 p xs ∧ SqL X.K H1 q ys ∧ R (Itz X.K p q) H1) : WI X (.Tuple elts kk tpos) (.Call (.Name "zip" p2) [a, b] [] pos) σ H R := ⟨_, pi_zip hg hm WA.pa hs hpl, h⟩

/-! ### comprehensions: the block's rules are left open, too -/
def GBlk (X : Cx) (scope : Scope) (tg : Expr) : TG := fun v σ H Q => ∀ (s : Shared) (H0 : Hp) (C : Addr) (cl : List (Str × Addr)) (fp : List Addr), WG (X.blk s H0 scope (compEnvC scope cl C X.env) fp) tg v σ H Q
def TBlk (X : Cx) (scope : Scope) (ifs : List Expr) : TT := fun σ H Q => ∀ (s : Shared) (H0 : Hp) (C : Addr) (cl : List (Str × Addr)) (fp : List Addr), WTs (X.blk s H0 scope (compEnvC scope cl C X.env) fp) ifs σ H Q
def EBlk (X : Cx) (scope : Scope) (elt : Expr) : TE := fun σ H Q => ∀ (s : Shared) (H0 : Hp) (C : Addr) (cl : List (Str × Addr)) (fp : List Addr), WE (X.blk s H0 scope (compEnvC scope cl C X.env) fp) elt σ H Q
def tLcR (J : It) (g : TG) (tt : TT) (te : TE) (vs : List Nat) (σ : L2.St) (H1 : Hp) (D : Addr) (Qd : Hp → Prop) : Prop := ∃ W : Nat → Nat → Hp → Prop, (∃ m, W 0 m (upd H1 D (.lst []))) ∧ ∀ i m H, W i m H →
  (J.stop i H ∧ Qd H) ∨ (J.go i H ∧ ∃ Nx : Hp → Prop, (∀ H', Nx H' → ∃ m', m' < m ∧ W (i + 1) m' H') ∧ ∀ x H', J.yld i H x H' → g x (wipe σ vs) H' fun σ2 H2 => wipe σ2 vs = wipe σ vs ∧ tt σ2 H2 fun b H3 =>
    if b = true then te σ2 H3 fun y H4 => ∃ acc, H4 D = some (.lst acc) ∧ acc.length < sizeLine ∧ Nx (upd H4 D (.lst (acc ++ [y]))) else Nx H3)
variable {elt : Expr} {ifs : List Expr} {scope : Scope}
theorem blk_g : ∀ (s : Shared) (H : Hp) (C : Addr) (cl : List (Str × Addr)) (fp : List Addr), PG (X.blk s H scope (compEnvC scope cl C X.env) fp) tg (GBlk X scope tg) := fun s H0 C cl fp => ⟨fun pins s' σ H v u Q I r h => WG.pg.run pins s' σ H v u Q I r (h s H0 C cl fp)⟩
theorem blk_t : ∀ (s : Shared) (H : Hp) (C : Addr) (cl : List (Str × Addr)) (fp : List Addr), PTs (X.blk s H scope (compEnvC scope cl C X.env) fp) ifs (TBlk X scope ifs) := fun s H0 C cl fp => ⟨fun pins s' σ H Q I h => WTs.pts.run pins s' σ H Q I (h s H0 C cl fp)⟩
theorem blk_e : ∀ (s : Shared) (H : Hp) (C : Addr) (cl : List (Str × Addr)) (fp : List Addr), PE (X.blk s H scope (compEnvC scope cl C X.env) fp) elt (EBlk X scope elt) := fun s H0 C cl fp => ⟨fun pins s' σ H Q I h => WE.pe.run pins s' σ H Q I (h s H0 C cl fp)⟩
theorem ts_nil (q : QT true H) : WTs X [] σ H QT := ⟨_, pts_nil, q⟩
theorem ts_one (h : WT X c σ H QT) : WTs X [c] σ H QT := ⟨_, pts_one WT.pt, h⟩
theorem e_lc (own : List (Str × Nat)) (hN : X.N.Nodup) (ok : BlkOk X.N X.env.scope scope own := by exact blkOk_by (by decide +kernel)) (hc : X.calm = true := by rfl) (hs : ∀ x, foldedSetIterable iter X.env x = pure x := by intro _; rfl)
    (h : WI X tg iter σ H fun J H1 => ∀ D, H1 D = none → tLcR J (GBlk X scope tg) (TBlk X scope ifs) (EBlk X scope elt) (own.map (·.2)) σ H1 D (Q (.ref D))) : WE X (.ListComp elt [⟨tg, iter, ifs, 0⟩] scope pos) σ H Q :=
  ⟨_, pe_lc hc hN WI.pi ok blk_g blk_t blk_e hs, h⟩
theorem s_setLc (i : Nat) (own : List (Str × Nat)) (hN : X.N.Nodup) {y : Str} (hy : X.N[i]? = some y := by rfl) (hyl : X.env.scope.names.lookup y = some .local := by rfl)
    (ok : BlkOk X.N X.env.scope scope own := by exact blkOk_by (by decide +kernel)) (hc : X.calm = true := by rfl) (hs : ∀ x, foldedSetIterable iter X.env x = pure x := by intro _; rfl)
    {spos : Pos} (hsw2 : swapsWith (.ListComp elt [⟨tg, iter, ifs, 0⟩] scope pos) (some (.Name y p2)) spos.line X.env = pure true := by exact sw_true rfl rfl rfl (by decide +kernel))
    (h : WI X tg iter σ H fun J H1 => ∀ D, H1 D = none → tLcR J (GBlk X scope tg) (TBlk X scope ifs) (EBlk X scope elt) (own.map (·.2)) σ H1 D (fun H2 => D'.nx (σ.set i (some (.ref D))) H2)) : WS X (.Assign [.Name y p2] (.ListComp elt [⟨tg, iter, ifs, 0⟩] scope pos) spos) D' σ H :=
  ⟨_, ps_setLc hc hN hy hyl hsw2 WI.pi ok blk_g blk_t blk_e hs, h⟩
end
end Lw
namespace Lw
open PySem PySem.Spec L2 Evl

/-! ### calls -/
/-- a def of the module that keeps a promise and lets nothing out -/
structure Cal (P : Program) (w : World) (K : PySem.W.Frag) (mg : Str → Option Value) (base : Heap) (x : Str) (k : Nat) (ps : List Str) (sp : Sp) : Prop where
  ex : ∃ f fd, FnOk P w K mg base CX0 k f fd ps sp ∧ mg x = some (.ref f) ∧ PySem.W.keepIn K (.ref f) = true ∧ Binds K fd ps []
/-- .. called by keywords alone -/
structure CalK (P : Program) (w : World) (K : PySem.W.Frag) (mg : Str → Option Value) (base : Heap) (x : Str) (k : Nat) (ps ks : List Str) (gV : List V → List V) (sp : Sp) : Prop where
  ex : ∃ f fd g, FnOk P w K mg base CX0 k f fd ps sp ∧ mg x = some (.ref f) ∧ PySem.W.keepIn K (.ref f) = true ∧ KBn K fd ps 0 ks g (fun _ zs => gV zs)
section
variable {X : Cx} {σ : L2.St} {H : Hp} {Q : VK} {a b c e o : Expr} {pos p2 apos : Pos} {x m : Str} {v : V} {es : List Expr} {k : Nat} {ps ks : List Str} {sp : Sp} {gV : List V → List V}
theorem e_call (cl : Cal X.prog X.w X.K X.mg X.base x k ps sp) (hr : Room k X.A) (hg : Gl X x := by rfl) (hdb : (x == ("__debug__" : Str)) = false := by decide) (he : starEach (e :: es) X.env = (false, eval e X.env) :: starEach es X.env := by rfl) (hpl : (backTo pos (starEach es X.env)).any (·.1) = false := by rfl)
    (h : WA X (e :: es) σ H fun vs H1 => sp vs H1 Q E0) : WE X (.Call (.Name x p2) (e :: es) [] pos) σ H Q := by
  obtain ⟨f, fd, F, hm, hk, hb⟩ := cl.ex
  refine ⟨_, pe_call F hr hg hm hk hb .nil pass0 WA.pa hdb he hpl, ?_⟩
  show WA X (e :: es) σ H fun vs H1 => sp (vs ++ []) H1 Q E0
  simp only [List.append_nil]
  exact h
theorem e_call0 (cl : Cal X.prog X.w X.K X.mg X.base x k ps sp) (hr : Room k X.A) (hg : Gl X x := by rfl) (hdb : (x == ("__debug__" : Str)) = false := by decide)
    (h : sp [] H Q E0) : WE X (.Call (.Name x p2) [] [] pos) σ H Q := by
  obtain ⟨f, fd, F, hm, hk, hb⟩ := cl.ex
  exact ⟨_, pe_call0 F hr hg hm hk hb .nil pass0 hdb, h⟩
theorem pe_callN0 {CX : CXT} {f : Addr} {fd : FuncData} {E : XK} {kws : List Keyword} {tk : TA} {g : List Value → List Value → List Value} {gW : List V → List V → List V} (F : FnOk X.prog X.w X.K X.mg X.base CX k f fd ps sp) (hr : Room k X.A) (hg : Gl X x) (hm : X.mg x = some (.ref f)) (hk : PySem.W.keepIn X.K (.ref f) = true) (hb : KBn X.K fd ps 0 ks g gW) (hx : Passes CX X E)
    (hkw : PK X kws tk) (hall : (backToKw pos (keywordEach kws X.env)).all (·.1.isSome) = true := by rfl) (hks : (backToKw pos (keywordEach kws X.env)).filterMap (·.1) = ks := by rfl)
    (hdb : (x == ("__debug__" : Str)) = false := by decide)
    (hpl : ((backTo pos (starEach [] X.env)).any (·.1) || (backToKw pos (keywordEach kws X.env)).any (·.1.isNone)) = false := by rfl) :
    PE X (.Call (.Name x p2) [] kws pos) (tCallN 0 ks.length sp gW E tNil tk) := by
  refine ⟨fun pins s σ H Q I h => ?_⟩
  refine wpAny_Call_Name_kw (ld_glob I hg hm ?_ hdb)
  refine PySem.W.callWith_KW0 (h₀ := X.base) I.ok.mod.kin hk hall ?_ hpl
  refine thn (hkw.run pos pins s σ H _ I h) fun ws s2 ⟨zs, H2, I2, rz, l1, l2, q2⟩ => ⟨I2.kIn, ?_⟩
  rw [hks]
  exact run_fnN (us := []) (vs := []) F hr hb hx I2 .nil rz rfl l2 q2
theorem e_callK {kws : List Keyword} (cl : CalK X.prog X.w X.K X.mg X.base x k ps ks gV sp) (hr : Room k X.A) (hg : Gl X x := by rfl) (hdb : (x == ("__debug__" : Str)) = false := by decide)
    (hall : (backToKw pos (keywordEach kws X.env)).all (·.1.isSome) = true := by rfl) (hks : (backToKw pos (keywordEach kws X.env)).filterMap (·.1) = ks := by rfl)
    (hpl : ((backTo pos (starEach [] X.env)).any (·.1) || (backToKw pos (keywordEach kws X.env)).any (·.1.isNone)) = false := by rfl)
    (h : WK X kws σ H fun zs H1 => ([] : List V).length = 0 ∧ zs.length = ks.length ∧ sp (gV zs) H1 Q E0) : WE X (.Call (.Name x p2) [] kws pos) σ H Q := by
  obtain ⟨f, fd, g, F, hm, hk, hb⟩ := cl.ex
  exact ⟨_, pe_callN0 F hr hg hm hk hb pass0 WK.pk hall hks hdb hpl, h⟩
end
/-- a method of the class at C | its __init__ | a property -/
structure CalM (P : Program) (w : World) (K : PySem.W.Frag) (mg : Str → Option Value) (base : Heap) (C : Addr) (m : Str) (k : Nat) (ps : List Str) (sp : Sp) : Prop where
  ex : ∃ f fd, FnOk P w K mg base CX0 k f fd ps sp ∧ Cls K C ∧ Meth K C m f ∧ Binds K fd ps []
structure CalI (P : Program) (w : World) (K : PySem.W.Frag) (mg : Str → Option Value) (base : Heap) (C : Addr) (x : Str) (k : Nat) (ps : List Str) (sp : Sp) : Prop where
  ex : ∃ f fd, FnOk P w K mg base CX0 k f fd ps sp ∧ mg x = some (.ref C) ∧ Mk K C f ∧ Binds K fd ps []
structure CalP (P : Program) (w : World) (K : PySem.W.Frag) (mg : Str → Option Value) (base : Heap) (C : Addr) (m : Str) (k : Nat) (sp : Sp) : Prop where
  ex : ∃ p g fd ps, FnOk P w K mg base CX0 k g fd ps sp ∧ Cls K C ∧ PropOf K C m p g ∧ Binds K fd ps []
section
variable {X : Cx} {σ : L2.St} {H : Hp} {Q : VK} {a b c e o : Expr} {pos p2 apos : Pos} {x m : Str} {v : V} {es : List Expr} {k : Nat} {ps ks : List Str} {sp : Sp} {C : Addr}
theorem e_meth {pl : Sem Bool} (cl : CalM X.prog X.w X.K X.mg X.base C m k ps sp) (hr : Room k X.A)
    (hst : starEach (e :: es) X.env = (false, eval e X.env) :: starEach es X.env := by rfl) (hpl : (backTo pos (starEach es X.env)).any (·.1) = false := by rfl)
    (ht : eval (.Call (.Attribute o m apos) (e :: es) [] pos) X.env = (do
      let ov ← eval o X.env
      standAt apos.atName
      let (f, first) ← holding [ov] (getMethod ov m pl)
      callWith pos f first (backTo pos (starEach (e :: es) X.env)) (backToKw pos (keywordEach [] X.env))) := by rfl)
    (h : WE X o σ H fun x H1 => ∃ a dx fs, x = .ref a ∧ H1 a = some (.ins C dx fs) ∧ fs.lookup m = none ∧ WA X (e :: es) σ H1 fun vs H2 => sp (x :: vs) H2 Q E0) : WE X (.Call (.Attribute o m apos) (e :: es) [] pos) σ H Q := by
  obtain ⟨f, fd, F, hc, hm, hb⟩ := cl.ex
  refine ⟨_, pe_meth (pl := pl) WE.pe hc hm F hr hb .nil pass0 WA.pa hst hpl ht, ?_⟩
  show WE X o σ H fun x H1 => ∃ a dx fs, x = .ref a ∧ H1 a = some (.ins C dx fs) ∧ fs.lookup m = none ∧ WA X (e :: es) σ H1 fun vs H2 => sp (x :: (vs ++ [])) H2 Q E0
  simp only [List.append_nil]
  exact h
theorem e_meth0 {pl : Sem Bool} (cl : CalM X.prog X.w X.K X.mg X.base C m k ps sp) (hr : Room k X.A)
    (ht : eval (.Call (.Attribute o m apos) [] [] pos) X.env = (do
      let ov ← eval o X.env
      standAt apos.atName
      let (f, first) ← holding [ov] (getMethod ov m pl)
      callWith pos f first (backTo pos (starEach [] X.env)) (backToKw pos (keywordEach [] X.env))) := by rfl)
    (h : WE X o σ H fun x H1 => ∃ a dx fs, x = .ref a ∧ H1 a = some (.ins C dx fs) ∧ fs.lookup m = none ∧ sp [x] H1 Q E0) : WE X (.Call (.Attribute o m apos) [] [] pos) σ H Q := by
  obtain ⟨f, fd, F, hc, hm, hb⟩ := cl.ex
  exact ⟨_, pe_meth0 (pl := pl) WE.pe hc hm F hr hb .nil pass0 ht, h⟩
theorem e_make (cl : CalI X.prog X.w X.K X.mg X.base C x k ps sp) (hr : Room (k + 1) X.A) (hg : Gl X x := by rfl) (hdb : (x == ("__debug__" : Str)) = false := by decide) (he : starEach (e :: es) X.env = (false, eval e X.env) :: starEach es X.env := by rfl) (hpl : (backTo pos (starEach es X.env)).any (·.1) = false := by rfl)
    (h : WA X (e :: es) σ H fun vs H1 => ∀ x dx, H1 x = none → H1 dx = none → dx ≠ x → sp (.ref x :: vs) (upd (upd H1 dx (.own x)) x (.ins C dx [])) (fun v H2 => v = .non ∧ Q (.ref x) H2) E0) : WE X (.Call (.Name x p2) (e :: es) [] pos) σ H Q := by
  obtain ⟨f, fd, F, hm, hM, hb⟩ := cl.ex
  refine ⟨_, pe_make hM F hr hg hm hb .nil pass0 WA.pa hdb he hpl, ?_⟩
  show WA X (e :: es) σ H fun vs H1 => ∀ x dx, H1 x = none → H1 dx = none → dx ≠ x → sp (.ref x :: (vs ++ [])) (upd (upd H1 dx (.own x)) x (.ins C dx [])) (fun v H2 => v = .non ∧ Q (.ref x) H2) E0
  simp only [List.append_nil]
  exact h
theorem e_prop (cl : CalP X.prog X.w X.K X.mg X.base C m k sp) (hr : Room (k + 1) X.A) (hab : attributeBase e m X.env (eval e X.env) = eval e X.env := by rfl)
    (h : WE X e σ H fun x H1 => ∃ a dx fs, x = .ref a ∧ H1 a = some (.ins C dx fs) ∧ sp [.ref a] H1 Q E0) : WE X (.Attribute e m pos) σ H Q := by
  obtain ⟨p, g, fd, ps, F, hc, hp, hb⟩ := cl.ex
  exact ⟨_, pe_prop WE.pe hc hp F hr hb .nil pass0 hab, h⟩
end

/-! ### what is known, and what grows -/
abbrev M0 : Addr → Prop := fun _ => False
/-- B: objects that nobody changes any more; H: all that is tracked. Those in M may change -/
structure Gr (M : Addr → Prop) (B H B' H' : Hp) : Prop where
  b : Ex B B'
  k : Ex B' H'
  h : ∀ a o, ¬ M a → H a = some o → H' a = some o
  n : ∀ a, H a ≠ none → H' a ≠ none
  f : ∀ a, B a = none → H a ≠ none → B' a = none
section
variable {M : Addr → Prop} {B H B1 H1 B2 H2 : Hp} {p : Addr} {o : HO}
theorem Gr.refl (k : Ex B H) : Gr M B H B H := ⟨.refl B, k, fun _ _ _ h => h, fun _ h => h, fun _ h _ => h⟩
theorem Gr.trans (x : Gr M B H B1 H1) (y : Gr M B1 H1 B2 H2) : Gr M B H B2 H2 :=
  ⟨x.b.trans y.b, y.k, fun a o m h => y.h a o m (x.h a o m h), fun a h => y.n a (x.n a h), fun a h1 h2 => y.f a (x.f a h1 h2) (x.n a h2)⟩
theorem Gr.weak {M' : Addr → Prop} (x : Gr M B H B1 H1) (h : ∀ a, M a → M' a) : Gr M' B H B1 H1 := ⟨x.b, x.k, fun a o m => x.h a o fun z => m (h a z), x.n, x.f⟩
theorem Gr.up (x : Gr M0 B H B1 H1) : Gr M B H B1 H1 := x.weak fun _ z => z.elim
theorem Gr.ex (x : Gr M0 B H B1 H1) : Ex H H1 := fun a o h => x.h a o (fun z => z) h
theorem none_of_ex (k : Ex B H) (h : H p = none) : B p = none := fresh_back k h
theorem Gr.free (x : Gr M B H B1 H1) (h : H1 p = none) : H p = none := by
  cases q : H p with
  | none => rfl
  | some o => exact absurd h (x.n p (by rw [q]; exact fun z => nomatch z))
theorem upd_none {a : Addr} (h : upd H p o a = none) : H a = none := by
  unfold upd at h
  split at h
  · cases h
  · exact h
theorem upd_nn {a : Addr} (h : H a ≠ none) : upd H p o a ≠ none := fun z => h (upd_none z)
/-- a new object, the owner's -/
theorem Gr.own (x : Gr M B H B1 H1) (hp : H1 p = none) : Gr M B H B1 (upd H1 p o) :=
  ⟨x.b, x.k.trans (Ex.new hp), fun a u m h => by rw [upd_ne (ne_of_none (x.h a u m h) hp)]; exact x.h a u m h, fun a h => upd_nn (x.n a h), x.f⟩
/-- a new object that stays -/
theorem Gr.new (x : Gr M B H B1 H1) (hp : H1 p = none) : Gr M B H (upd B1 p o) (upd H1 p o) := by
  have hb := none_of_ex x.k hp
  refine ⟨x.b.trans (Ex.new hb), fun a u h => ?_, (x.own hp).h, (x.own hp).n, fun a h1 h2 => ?_⟩
  · by_cases e : a = p
    · subst e
      rw [upd_same] at h ⊢
      exact h
    · rw [upd_ne e] at h ⊢
      exact x.k a u h
  · have ne : a ≠ p := fun e => x.n a h2 (e ▸ hp)
    rw [upd_ne ne]
    exact x.f a h1 h2
/-- what the owner does not change any more -/
theorem Gr.learn (x : Gr M B H B1 H1) (h0 : H p = none) (hb : B1 p = none) (hp : H1 p = some o) : Gr M B H (upd B1 p o) H1 := by
  refine ⟨x.b.trans (Ex.new hb), fun a u h => ?_, x.h, x.n, fun a h1 h2 => ?_⟩
  · by_cases e : a = p
    · subst e
      rw [upd_same] at h
      cases h
      exact hp
    · rw [upd_ne e] at h
      exact x.k a u h
  · have ne : a ≠ p := fun e => h2 (e ▸ h0)
    rw [upd_ne ne]
    exact x.f a h1 h2
/-- the owner changes its own -/
theorem Gr.mut (x : Gr M B H B1 H1) (h0 : M p ∨ H p = none) (hb : B1 p = none) : Gr M B H B1 (upd H1 p o) := by
  refine ⟨x.b, fun a u h => ?_, fun a u m h => ?_, fun a h => upd_nn (x.n a h), x.f⟩
  · have ne : a ≠ p := fun e => by rw [e, hb] at h; cases h
    rw [upd_ne ne]
    exact x.k a u h
  · have ne : a ≠ p := fun e => by
      subst e
      rcases h0 with z | z
      · exact m z
      · rw [z] at h; cases h
    rw [upd_ne ne]
    exact x.h a u m h
end

/-! ### data -/
class Dat (α : Type) [DecidableEq α] where
  toD : α → PyData
  lay : ∀ a, (toD a).canLay0 = true
  eqv : ∀ a b, PyData.eqv (toD a) (toD b) = decide (a = b)
  dep : Nat
  dep_le : ∀ a, (toD a).depth ≤ dep
theorem beq_dec {α : Type} [BEq α] [LawfulBEq α] [DecidableEq α] (a b : α) : (a == b) = decide (a = b) := by
  rw [Bool.eq_iff_iff, beq_iff_eq, decide_eq_true_eq]
instance : Dat Int where
  toD := .int
  lay _ := rfl
  eqv a b := by simp only [PyData.eqv]; exact beq_dec a b
  dep := 0
  dep_le _ := Nat.le_refl _
instance : Dat Bool where
  toD := .bool
  lay _ := rfl
  eqv a b := by simp only [PyData.eqv]; exact beq_dec a b
  dep := 0
  dep_le _ := Nat.le_refl _
instance : Dat (Option Int) where
  toD
    | .none => .none
    | .some i => .int i
  lay a := by cases a <;> rfl
  eqv a b := by
    cases a <;> cases b <;> simp only [PyData.eqv]
    · rfl
    · rfl
    · rfl
    · rw [beq_dec]
      exact decide_eq_decide.mpr ⟨fun e => by rw [e], fun e => Option.some.inj e⟩
  dep := 0
  dep_le a := by cases a <;> exact Nat.le_refl _
section
variable {α β : Type} [DecidableEq α] [Dat α] [DecidableEq β] [Dat β]
theorem layAll_map : ∀ xs : List α, PyData.canLayAll0 (xs.map Dat.toD) = true
  | [] => rfl
  | x :: xs => by
    rw [List.map_cons, PyData.canLayAll0, Dat.lay x, layAll_map xs]
    rfl
theorem depAll_map : ∀ xs : List α, PyData.depthAll (xs.map Dat.toD) ≤ Dat.dep α
  | [] => Nat.zero_le _
  | x :: xs => by
    rw [List.map_cons, PyData.depthAll]
    exact Nat.max_le.mpr ⟨Dat.dep_le x, depAll_map xs⟩
theorem eqvAll_dat : ∀ xs ys : List α, PyData.eqvAll (xs.map Dat.toD) (ys.map Dat.toD) = decide (xs = ys)
  | [], [] => by simp only [List.map_nil, PyData.eqvAll, decide_true]
  | [], _ :: _ => by simp [PyData.eqvAll]
  | _ :: _, [] => by simp [PyData.eqvAll]
  | x :: xs, y :: ys => by
    rw [List.map_cons, List.map_cons, PyData.eqvAll, Dat.eqv x y, eqvAll_dat xs ys, ← Bool.decide_and]
    exact decide_eq_decide.mpr (by rw [List.cons.injEq])
instance : Dat (List α) where
  toD xs := .list (xs.map Dat.toD)
  lay xs := by simp only [PyData.canLay0]; exact layAll_map xs
  eqv xs ys := by simp only [PyData.eqv]; exact eqvAll_dat xs ys
  dep := Dat.dep α + 1
  dep_le xs := by simp only [PyData.depth]; exact Nat.succ_le_succ (depAll_map xs)
instance : Dat (α × β) where
  toD p := .tuple [Dat.toD p.1, Dat.toD p.2]
  lay p := by simp only [PyData.canLay0, PyData.canLayAll0, Dat.lay, Bool.and_self]
  eqv p q := by
    simp only [PyData.eqv, PyData.eqvAll]
    rw [Dat.eqv, Dat.eqv, Bool.and_true, ← Bool.decide_and]
    exact decide_eq_decide.mpr ⟨fun e => Prod.ext e.1 e.2, fun e => by rw [e]; exact ⟨rfl, rfl⟩⟩
  dep := max (Dat.dep α) (Dat.dep β) + 1
  dep_le p := by
    simp only [PyData.depth, PyData.depthAll]
    exact Nat.succ_le_succ (Nat.max_le.mpr ⟨Nat.le_trans (Dat.dep_le p.1) (Nat.le_max_left _ _), Nat.max_le.mpr ⟨Nat.le_trans (Dat.dep_le p.2) (Nat.le_max_right _ _), Nat.zero_le _⟩⟩)
end
mutual
theorem Dp.mono {K : PySem.W.Frag} {B B' : Hp} (e : Ex B B') : ∀ {v : V} {d : PyData}, Dp K B v d → Dp K B' v d
  | _, _, .non => .non
  | _, _, .bl b => .bl b
  | _, _, .int b => .int b
  | _, _, .str b => .str b
  | _, _, .lst h a => .lst (ex_l e h) (DpAll.mono e a)
  | _, _, .tup h a => .tup (ex_t e h) (DpAll.mono e a)
theorem DpAll.mono {K : PySem.W.Frag} {B B' : Hp} (e : Ex B B') : ∀ {vs : List V} {ds : List PyData}, DpAll K B vs ds → DpAll K B' vs ds
  | _, _, .nil => .nil
  | _, _, .cons h a => .cons (Dp.mono e h) (DpAll.mono e a)
end
/-- v is x, as B tells -/
def Dt {α : Type} [DecidableEq α] [Dat α] (K : PySem.W.Frag) (B : Hp) (v : V) (x : α) : Prop := Dp K B v (Dat.toD x)
def Das {α : Type} [DecidableEq α] [Dat α] (K : PySem.W.Frag) (B : Hp) (vs : List V) (xs : List α) : Prop := DpAll K B vs (xs.map Dat.toD)
section
variable {α β : Type} [DecidableEq α] [Dat α] [DecidableEq β] [Dat β] {K : PySem.W.Frag} {B B' H : Hp} {v w : V} {vs ws : List V}
theorem Dt.mono {x : α} (e : Ex B B') (h : Dt K B v x) : Dt K B' v x := Dp.mono e h
theorem Das.mono {xs : List α} (e : Ex B B') (h : Das K B vs xs) : Das K B' vs xs := DpAll.mono e h
theorem dt_int {i : Int} (h : Dt K B v i) : v = .int i := by
  unfold Dt at h
  cases h
  rfl
theorem dt_bl {i : Bool} (h : Dt K B v i) : v = .bl i := by
  unfold Dt at h
  cases h
  rfl
theorem dt_none (h : Dt K B v (none : Option Int)) : v = .non := by
  unfold Dt at h
  cases h
  rfl
theorem dt_some {i : Int} (h : Dt K B v (some i)) : v = .int i := by
  unfold Dt at h
  cases h
  rfl
theorem dtI (i : Int) : Dt K B (.int i) i := Dp.int i
theorem dtB (i : Bool) : Dt K B (.bl i) i := Dp.bl i
theorem dtN : Dt K B .non (none : Option Int) := Dp.non
theorem dtS (i : Int) : Dt K B (.int i) (some i) := Dp.int i
theorem dt_list {xs : List α} (h : Dt K B v xs) : ∃ a vs, v = .ref a ∧ SqL K B a vs ∧ Das K B vs xs := by
  unfold Dt at h
  cases h with
  | lst h1 h2 => exact ⟨_, _, rfl, h1, h2⟩
theorem dtL {a : Addr} {xs : List α} (h : SqL K B a vs) (hs : Das K B vs xs) : Dt K B (.ref a) xs := Dp.lst h hs
theorem dt_pair {x : α × β} (h : Dt K B v x) : ∃ a y z, v = .ref a ∧ SqT K B a [y, z] ∧ Dt K B y x.1 ∧ Dt K B z x.2 := by
  unfold Dt at h
  cases h with
  | tup h1 h2 =>
    cases h2 with
    | cons a b =>
      cases b with
      | cons c d =>
        cases d
        exact ⟨_, _, _, rfl, h1, a, c⟩
theorem dtP {a : Addr} {y z : V} {p : α} {q : β} (h : SqT K B a [y, z]) (h1 : Dt K B y p) (h2 : Dt K B z q) : Dt K B (.ref a) (p, q) := Dp.tup h (.cons h1 (.cons h2 .nil))
theorem Das.nil : Das K B [] ([] : List α) := DpAll.nil
theorem Das.cons {x : α} {xs : List α} (h : Dt K B v x) (hs : Das K B vs xs) : Das K B (v :: vs) (x :: xs) := DpAll.cons h hs
theorem Das.len : ∀ {vs : List V} {xs : List α}, Das K B vs xs → vs.length = xs.length
  | [], [], _ => rfl
  | [], _ :: _, h => by cases h
  | _ :: _, [], h => by cases h
  | _ :: vs, _ :: xs, h => by
    cases h with
    | cons h hs =>
      rw [List.length_cons, List.length_cons, Das.len (show Das K B vs xs from hs)]
theorem Das.get : ∀ {vs : List V} {xs : List α} {i : Nat} {v : V}, Das K B vs xs → vs[i]? = some v → ∃ x, xs[i]? = some x ∧ Dt K B v x
  | [], _, _, _, _, e => by simp at e
  | _ :: _, [], _, _, h, _ => by cases h
  | u :: vs, x :: xs, 0, v, h, e => by
    cases h with
    | cons h hs =>
      have e' : u = v := by simpa using e
      subst e'
      exact ⟨x, rfl, h⟩
  | u :: vs, x :: xs, i + 1, v, h, e => by
    cases h with
    | cons h hs => exact Das.get (i := i) (show Das K B vs xs from hs) (by simpa using e)
theorem Das.at {xs : List α} {i : Nat} {x : α} (h : Das K B vs xs) (e : xs[i]? = some x) : ∃ v, vs[i]? = some v ∧ Dt K B v x := by
  have hl := h.len
  have hi : i < xs.length := (List.getElem?_eq_some_iff.mp e).1
  have hv : vs[i]? = some (vs[i]'(by omega)) := List.getElem?_eq_getElem (by omega)
  obtain ⟨y, e2, d⟩ := h.get hv
  rw [e] at e2
  cases e2
  exact ⟨_, hv, d⟩
theorem Das.app : ∀ {vs : List V} {xs : List α} {ws : List V} {ys : List α}, Das K B vs xs → Das K B ws ys → Das K B (vs ++ ws) (xs ++ ys)
  | [], [], _, _, _, k => k
  | [], _ :: _, _, _, h, _ => by cases h
  | _ :: _, [], _, _, h, _ => by cases h
  | _ :: vs, _ :: xs, _, _, h, k => by
    cases h with
    | cons h hs => exact .cons h (Das.app (show Das K B vs xs from hs) k)
theorem Das.snoc {x : α} {xs : List α} (hs : Das K B vs xs) (h : Dt K B v x) : Das K B (vs ++ [v]) (xs ++ [x]) := hs.app (.cons h .nil)
theorem das_ints : ∀ {ns : List Int}, Das K B (ns.map V.int) ns
  | [] => .nil
  | n :: ns => .cons (dtI n) das_ints
theorem Das.ints : ∀ {vs : List V} {ns : List Int}, Das K B vs ns → vs = ns.map V.int
  | [], [], _ => rfl
  | [], _ :: _, h => by cases h
  | _ :: _, [], h => by cases h
  | v :: vs, n :: ns, h => by
    cases h with
    | cons h hs =>
      rw [List.map_cons, dt_int (show Dt K B v n from h), Das.ints (show Das K B vs ns from hs)]
/-- == and != of data -/
theorem eq_dat {x y : α} {H : Hp} {Q : VK} (hx : Dt K B v x) (hy : Dt K B w y) (k : Ex B H) (hd : Dat.dep α ≤ 64) (q : Q (.bl (decide (x = y))) H) : rEqD K v w H Q :=
  ⟨_, _, Dp.mono k hx, Dp.mono k hy, by unfold SeqAt.shaped; rw [Dat.lay, Bool.true_and]; exact decide_eq_true (Nat.le_trans (Dat.dep_le x) hd), by unfold SeqAt.shaped; rw [Dat.lay, Bool.true_and]; exact decide_eq_true (Nat.le_trans (Dat.dep_le y) hd), by rw [Dat.eqv]; exact q⟩
theorem ne_dat {x y : α} {H : Hp} {Q : VK} (hx : Dt K B v x) (hy : Dt K B w y) (k : Ex B H) (hd : Dat.dep α ≤ 64) (q : Q (.bl (!decide (x = y))) H) : rNeD K v w H Q :=
  ⟨_, _, Dp.mono k hx, Dp.mono k hy, by unfold SeqAt.shaped; rw [Dat.lay, Bool.true_and]; exact decide_eq_true (Nat.le_trans (Dat.dep_le x) hd), by unfold SeqAt.shaped; rw [Dat.lay, Bool.true_and]; exact decide_eq_true (Nat.le_trans (Dat.dep_le y) hd), by rw [Dat.eqv]; exact q⟩
end
end Lw
namespace Lw
open PySem PySem.Spec L2 Evl

/-! ### comprehensions, with what is known -/
section
variable {J : It} {n : Nat} {G : Hp → Prop} {Y : Nat → Hp → V → Hp → Prop} {M : Addr → Prop} {B H1 : Hp} {g : TG} {tt : TT} {te : TE} {vs : List Nat} {σ : L2.St} {D : Addr} {Qd : Hp → Prop}
theorem lcB (w : Walk J n G Y) (S : Nat → Hp → Hp → List V → Prop) (k : Ex B H1) (hD : H1 D = none) (hM : ¬ M D)
    (h0 : S 0 B H1 []) (hst : ∀ i B' H' acc l, B' D = none → S i B' H' acc → S i B' (upd H' D (.lst l)) acc)
    (hG : ∀ i B' H' acc, i ≤ n → Gr M B H1 B' H' → S i B' H' acc → G H')
    (hs : ∀ i x B' H' H'' acc, i < n → Gr M B H1 B' H' → B' D = none → H' D = some (.lst acc) → S i B' H' acc → Y i H' x H'' →
      ∀ (KT : VK) (KF : Hp → Prop), (∀ y B4 H4, Gr M B' H' B4 H4 → acc.length < sizeLine → S (i + 1) B4 H4 (acc ++ [y]) → KT y H4) → (∀ B3 H3, Gr M B' H' B3 H3 → S (i + 1) B3 H3 acc → KF H3) →
      g x (wipe σ vs) H'' fun σ2 H2 => wipe σ2 vs = wipe σ vs ∧ tt σ2 H2 fun b H3 => if b = true then te σ2 H3 KT else KF H3)
    (hd : ∀ B' H' acc, Gr M B H1 B' H' → B' D = none → H' D = some (.lst acc) → S n B' H' acc → Qd H') : tLcR J g tt te vs σ H1 D Qd := by
  have g0 : Gr M B H1 B (upd H1 D (.lst [])) := (Gr.refl k).own hD
  refine lc_it w (fun i H => ∃ B' acc, Gr M B H1 B' H ∧ B' D = none ∧ H D = some (.lst acc) ∧ S i B' H acc) ⟨B, [], g0, none_of_ex k hD, upd_same, hst _ _ _ _ _ (none_of_ex k hD) h0⟩ (fun i H hi ⟨B', acc, g, _, _, s⟩ => hG i B' H acc hi g s) ?_ (fun H ⟨B', acc, g, b, e, s⟩ => hd B' H acc g b e s)
  rintro i x H H' hi ⟨B', acc, g, b, e, s⟩ y
  refine hs i x B' H H' acc hi g b e s y _ _ (fun y B4 H4 g4 hl s4 => ⟨acc, g4.h _ _ hM e, hl, B4, acc ++ [y], ?_, g4.f _ b (by rw [e]; exact fun z => nomatch z), upd_same, hst _ _ _ _ _ (g4.f _ b (by rw [e]; exact fun z => nomatch z)) s4⟩) fun B3 H3 g3 s3 => ⟨B3, acc, g.trans g3, g3.f _ b (by rw [e]; exact fun z => nomatch z), g3.h _ _ hM e, s3⟩
  exact (g.trans g4).mut (.inr hD) (g4.f _ b (by rw [e]; exact fun z => nomatch z))
/-- a list of data, from the items of xs -/
theorem lcF {K : PySem.W.Frag} {α β : Type} [DecidableEq β] [Dat β] {xs : List α} (f : α → Option β) (w : Walk J xs.length G Y) (k : Ex B H1) (hD : H1 D = none) (hz : xs.length < sizeLine)
    (hG : ∀ B' H', Gr M0 B H1 B' H' → G H')
    (hs : ∀ i a x B' H' H'', xs[i]? = some a → Gr M0 B H1 B' H' → Y i H' x H'' →
      ∀ (KT : VK) (KF : Hp → Prop), (∀ b y B4 H4, f a = some b → Gr M0 B' H' B4 H4 → Dt K B4 y b → KT y H4) → (∀ B3 H3, f a = none → Gr M0 B' H' B3 H3 → KF H3) →
      g x (wipe σ vs) H'' fun σ2 H2 => wipe σ2 vs = wipe σ vs ∧ tt σ2 H2 fun b H3 => if b = true then te σ2 H3 KT else KF H3)
    (hd : ∀ B' H' acc, Gr M0 B H1 B' H' → B' D = none → H' D = some (.lst acc) → Das K B' acc (xs.filterMap f) → Qd H') : tLcR J g tt te vs σ H1 D Qd := by
  refine lcB (M := M0) w (fun i B' _ acc => Das K B' acc ((xs.take i).filterMap f) ∧ acc.length ≤ i) k hD (fun z => z) ⟨by simpa using Das.nil, Nat.le_refl _⟩ (fun _ _ _ _ _ _ s => s) (fun i B' H' acc _ g _ => hG B' H' g) ?_ (fun B' H' acc g b e s => hd B' H' acc g b e (by simpa using s.1))
  intro i x B' H' H'' acc hi g b e s y KT KF kt kf
  have hx : xs[i]? = some xs[i] := List.getElem?_eq_getElem hi
  have e2 : xs.take (i + 1) = xs.take i ++ [xs[i]] := by rw [List.take_add_one, hx]; rfl
  refine hs i xs[i] x B' H' H'' hx g y KT KF (fun b y B4 H4 fb g4 d => kt y B4 H4 g4 (by omega) ⟨?_, by rw [List.length_append, List.length_singleton]; omega⟩) fun B3 H3 fb g3 => kf B3 H3 g3 ⟨?_, by omega⟩
  · rw [e2, List.filterMap_append, List.filterMap_cons, fb]
    exact (s.1.mono g4.b).snoc d
  · rw [e2, List.filterMap_append, List.filterMap_cons, fb]
    simpa using s.1.mono g3.b
end
section
variable {K : PySem.W.Frag} {B H1 : Hp} {g : TG} {tt : TT} {te : TE} {vs : List Nat} {σ : L2.St} {D : Addr} {Qd : Hp → Prop}
/-- over a list of data that stays -/
theorem lcL {α β : Type} [DecidableEq α] [Dat α] [DecidableEq β] [Dat β] {xs : List α} {a : Addr} {ws : List V} (f : α → Option β) (hL : SqL K B a ws) (hA : Das K B ws xs) (k : Ex B H1) (hD : H1 D = none) (hz : xs.length < sizeLine)
    (hs : ∀ (i : Nat) y x B' H', xs[i]? = some y → Dt K B' x y → Gr M0 B H1 B' H' →
      ∀ (KT : VK) (KF : Hp → Prop), (∀ b z B4 H4, f y = some b → Gr M0 B' H' B4 H4 → Dt K B4 z b → KT z H4) → (∀ B3 H3, f y = none → Gr M0 B' H' B3 H3 → KF H3) →
      g x (wipe σ vs) H' fun σ2 H2 => wipe σ2 vs = wipe σ vs ∧ tt σ2 H2 fun b H3 => if b = true then te σ2 H3 KT else KF H3)
    (hd : ∀ B' H' acc, Gr M0 B H1 B' H' → B' D = none → H' D = some (.lst acc) → Das K B' acc (xs.filterMap f) → Qd H') : tLcR (Itl K a) g tt te vs σ H1 D Qd := by
  have wk : Walk (Itl K a) xs.length (fun H => SqL K H a ws) (YAt ws) := by
    rw [← hA.len]
    exact walk_list
  refine lcF (K := K) f wk k hD hz (fun B' H' g => ex_l (g.b.trans g.k) hL) ?_ hd
  rintro i y x B' H' H'' hy g ⟨rfl, hx⟩ KT KF kt kf
  obtain ⟨y', e, d⟩ := hA.get hx
  rw [hy] at e
  cases e
  exact hs i y x B' H'' hy (d.mono g.b) g KT KF kt kf
/-- over a list of ints, whoever owns it -/
theorem lcI {β : Type} [DecidableEq β] [Dat β] {ns : List Int} {a : Addr} (f : Int → Option β) (hL : SqL K H1 a (ns.map V.int)) (k : Ex B H1) (hD : H1 D = none) (hz : ns.length < sizeLine)
    (hs : ∀ (i : Nat) y B' H', ns[i]? = some y → Gr M0 B H1 B' H' →
      ∀ (KT : VK) (KF : Hp → Prop), (∀ b z B4 H4, f y = some b → Gr M0 B' H' B4 H4 → Dt K B4 z b → KT z H4) → (∀ B3 H3, f y = none → Gr M0 B' H' B3 H3 → KF H3) →
      g (.int y) (wipe σ vs) H' fun σ2 H2 => wipe σ2 vs = wipe σ vs ∧ tt σ2 H2 fun b H3 => if b = true then te σ2 H3 KT else KF H3)
    (hd : ∀ B' H' acc, Gr M0 B H1 B' H' → B' D = none → H' D = some (.lst acc) → Das K B' acc (ns.filterMap f) → Qd H') : tLcR (Itl K a) g tt te vs σ H1 D Qd := by
  have wk : Walk (Itl K a) ns.length (fun H => SqL K H a (ns.map V.int)) (YAt (ns.map V.int)) := by
    have e := walk_list (K := K) (a := a) (xs := ns.map V.int)
    rw [List.length_map] at e
    exact e
  refine lcF (K := K) f wk k hD hz (fun B' H' g => ex_l g.ex hL) ?_ hd
  rintro i y x B' H' H'' hy g ⟨rfl, hx⟩ KT KF kt kf
  rw [List.getElem?_map, hy] at hx
  cases hx
  exact hs i y B' H'' hy g KT KF kt kf
/-- over range(n) -/
theorem lcR {β : Type} [DecidableEq β] [Dat β] {n : Nat} (f : Nat → Option β) (k : Ex B H1) (hD : H1 D = none) (hz : n < sizeLine)
    (hs : ∀ i B' H', i < n → Gr M0 B H1 B' H' →
      ∀ (KT : VK) (KF : Hp → Prop), (∀ b z B4 H4, f i = some b → Gr M0 B' H' B4 H4 → Dt K B4 z b → KT z H4) → (∀ B3 H3, f i = none → Gr M0 B' H' B3 H3 → KF H3) →
      g (.int (i : Nat)) (wipe σ vs) H' fun σ2 H2 => wipe σ2 vs = wipe σ vs ∧ tt σ2 H2 fun b H3 => if b = true then te σ2 H3 KT else KF H3)
    (hd : ∀ B' H' acc, Gr M0 B H1 B' H' → B' D = none → H' D = some (.lst acc) → Das K B' acc ((List.range n).filterMap f) → Qd H') : tLcR (Itr 0 n) g tt te vs σ H1 D Qd := by
  have wk : Walk (Itr 0 n) (List.range n).length (fun _ => True) (YFn fun i => .int (0 + i)) := by
    rw [List.length_range]
    exact walk_range
  refine lcF (K := K) f wk k hD (by rw [List.length_range]; exact hz) (fun _ _ _ => trivial) ?_ hd
  rintro i y x B' H' H'' hy gg ⟨rfl, rfl⟩ KT KF kt kf
  have hi : i < n := by
    have := (List.getElem?_eq_some_iff.mp hy).1
    rwa [List.length_range] at this
  rw [List.getElem?_range hi] at hy
  cases hy
  have e : (0 : Int) + (i : Nat) = (i : Nat) := Int.zero_add _
  show g (.int ((0 : Int) + (i : Nat))) _ _ _
  rw [e]
  exact hs i B' H'' hi gg KT KF kt kf
end
theorem Gr.made {B H B' H' : Hp} {x dx : Addr} {o1 o2 : HO} (g : Gr (fun a => a = x) B (upd (upd H dx o1) x o2) B' H') (hx : H x = none) (hd : H dx = none) : Gr M0 B H B' H' := by
  have e0 : Ex H (upd (upd H dx o1) x o2) := (Ex.new hd).mut hx
  refine ⟨g.b, g.k, fun a o _ h => g.h a o (ne_of_none h hx) (e0 a o h), fun a h => g.n a (upd_nn (upd_nn h)), fun a h1 h2 => g.f a h1 (upd_nn (upd_nn h2))⟩
theorem ifd {p A B : Prop} [Decidable p] (h1 : p → A) (h2 : ¬ p → B) : if decide p = true then A else B := by
  by_cases h : p
  · rw [if_pos (decide_eq_true h)]
    exact h1 h
  · rw [if_neg (by rw [decide_eq_true_eq]; exact h)]
    exact h2 h
theorem ifn {p A B : Prop} [Decidable p] (h1 : ¬ p → A) (h2 : p → B) : if (!decide p) = true then A else B := by
  by_cases h : p
  · rw [if_neg (by rw [decide_eq_true h]; decide)]
    exact h2 h
  · rw [if_pos (by rw [decide_eq_false h]; rfl)]
    exact h1 h
theorem ifb {b : Bool} {A B : Prop} (h1 : b = true → A) (h2 : b = false → B) : if b = true then A else B := by
  cases b with
  | true => exact (if_pos rfl).symm ▸ h1 rfl
  | false => rw [if_neg (by decide)]; exact h2 rfl
theorem ift {b : Bool} {A B : Prop} (e : b = true) (h : A) : if b = true then A else B := by rw [if_pos e]; exact h
theorem iff_ {b : Bool} {A B : Prop} (e : b = false) (h : B) : if b = true then A else B := by rw [if_neg (by rw [e]; decide)]; exact h
end Lw
namespace Lw
open PySem PySem.Spec PyProof.Rows L2 Evl
/-! ### len of an instance with its own __len__ -/
section
variable {X : Cx} {k : Nat} {C f : Addr} {fd : FuncData} {ps : List Str} {sp : Sp}
structure CalL (P : Program) (w : World) (K : PySem.W.Frag) (mg : Str → Option Value) (base : Heap) (C : Addr) (k : Nat) (ps : List Str) (sp : Sp) : Prop where
  ex : ∃ f fd, FnOk P w K mg base CX0 k f fd ps sp ∧ PySem.W.findIn K (.ref C) "__len__" = some (some (.ref f)) ∧ PySem.W.isFn K (.ref f) = true ∧ Binds K fd ps []
theorem call_lenOwn (cl : CalL X.prog X.w X.K X.mg X.base C k ps sp) (hr : Room (k + 1) X.A) :
    CallR X (.builtin "len") (fun xs H Q => ∃ a dx fs, xs = [.ref a] ∧ H a = some (.ins C dx fs) ∧ sp [.ref a] H (fun v H' => ∃ n : Int, v = .int n ∧ (0 ≤ n ∧ n < 2 ^ 63) ∧ Q (.int n) H') E0) := by
  obtain ⟨f, fd, F, hs, hf, hb⟩ := cl.ex
  intro pins s σ H xs us Q I r h
  obtain ⟨a, dx, fs, rfl, ea, h⟩ := h
  obtain ⟨u1, rfl, r1⟩ := vals1 r
  cases (show u1 = Value.ref a from r1)
  obtain ⟨mA, O, _⟩ := ins_get I.hok ea
  obtain ⟨od, J, _⟩ := O.look
  obtain ⟨m, hF⟩ := I.fr
  have hl := F.len _ _ _ _ h
  have r2 : Vals [V.ref a] [Value.ref a] := .cons rfl .nil
  refine PySem.W.len_K hF I.ok.mod.kin J hs hf ?_
  refine wpAny_call (codeAny_mono (F.run X.A.in1 X.stack s H ⟨[.ref a], []⟩ [.ref a] [.ref a] _ E0 hr.in1 I.env0.in1 (by
    have := hb s [.ref a] I.kIn (by simpa using hl)
    simpa using this) r2 h) fun rr s' hq => ?_)
  cases rr with
  | error e => exact False.elim (pass0 (X := X.nox) pins σ H s e s' (I.wish _) hq)
  | ok fl =>
    cases fl with
    | ret u =>
      obtain ⟨v, H', I3, rv, n, hv, hn, q⟩ := I.after hq
      subst hv
      obtain ⟨t, rfl⟩ := rv
      exact ⟨hn, ⟨.int n, H', I3.tok _, ⟨_, rfl⟩, q⟩⟩
    | next => exact False.elim hq
    | brk => exact False.elim hq
    | cont => exact False.elim hq
end
end Lw
namespace Lw
open PySem PySem.Spec L2 Evl
/-! ### a list of three ints from which is drawn -/
abbrev dk (x y z : Int) : HO := .lst [.int x, .int y, .int z]
def DeckAt (H : Hp) (d : Addr) : Prop := ∃ x y z, H d = some (dk x y z)
theorem DeckAt.nn {H : Hp} {d : Addr} (h : DeckAt H d) : H d ≠ none := by
  obtain ⟨x, y, z, e⟩ := h
  rw [e]
  exact fun z => nomatch z
theorem DeckAt.upd {H : Hp} {d D : Addr} {o : HO} (h : DeckAt H d) (n : d ≠ D) : DeckAt (upd H D o) d := by
  obtain ⟨x, y, z, e⟩ := h
  exact ⟨x, y, z, by rw [upd_ne n]; exact e⟩
theorem DeckAt.ne {H : Hp} {d D : Addr} (h : DeckAt H d) (n : H D = none) : d ≠ D := fun e => h.nn (e ▸ n)
theorem DeckAt.new {H : Hp} {d D : Addr} {o : HO} (h : DeckAt H d) (n : H D = none) : DeckAt (L2.upd H D o) d := h.upd (h.ne n)
theorem DeckAt.ex {H H' : Hp} {d : Addr} (h : DeckAt H d) (e : Ex H H') : DeckAt H' d := by
  obtain ⟨x, y, z, q⟩ := h
  exact ⟨x, y, z, e _ _ q⟩
theorem DeckAt.gr {B H B' H' : Hp} {d : Addr} (h : DeckAt H d) (g : Gr M0 B H B' H') : DeckAt H' d := h.ex g.ex
abbrev Md (d : Addr) : Addr → Prop := fun a => a = d
theorem Gr.deck {B H B' H' : Hp} {d : Addr} {x y z : Int} (g : Gr (Md d) B H B' H') (hb : B' d = none) : Gr (Md d) B H B' (upd H' d (dk x y z)) := g.mut (.inl rfl) hb
theorem Gr.bd {M : Addr → Prop} {B H B' H' : Hp} {d : Addr} (g : Gr M B H B' H') (hb : B d = none) (hd : H d ≠ none) : B' d = none := g.f d hb hd
/-- a deck and what is known beside it -/
structure Dk (B H : Hp) (d : Addr) : Prop where
  k : Ex B H
  b : B d = none
  at_ : DeckAt H d
theorem Dk.gr {B H B' H' : Hp} {d : Addr} (h : Dk B H d) (g : Gr M0 B H B' H') : Dk B' H' d := ⟨g.k, g.f d h.b h.at_.nn, h.at_.gr g⟩
theorem Dk.go {B H B' H' : Hp} {d : Addr} (h : Dk B H d) (g : Gr (Md d) B H B' H') (a : DeckAt H' d) : Dk B' H' d := ⟨g.k, g.f d h.b h.at_.nn, a⟩
theorem Dk.own {B H : Hp} {d p : Addr} {o : HO} (k : Dk B H d) (hp : H p = none) : Dk B (upd H p o) d := k.gr ((Gr.refl k.k).own hp)
theorem Dk.new {B H : Hp} {d p : Addr} {o : HO} (k : Dk B H d) (hp : H p = none) : Dk (L2.upd B p o) (L2.upd H p o) d := k.gr ((Gr.refl k.k).new hp)
section
variable {J : It} {n : Nat} {G : Hp → Prop} {Y : Nat → Hp → V → Hp → Prop} {B H1 : Hp} {g : TG} {tt : TT} {te : TE} {vs : List Nat} {σ : L2.St} {D d : Addr} {Qd : Hp → Prop}
/-- ints that are drawn -/
theorem lcInts (w : Walk J n G Y) (P : Int → Prop) (k : Dk B H1 d) (hD : H1 D = none) (hn : n < sizeLine)
    (hG : ∀ B' H', Gr (Md d) B H1 B' H' → Dk B' H' d → G H')
    (hs : ∀ i x B' H' H'', i < n → Gr (Md d) B H1 B' H' → Dk B' H' d → Y i H' x H'' → ∀ (KT : VK) (KF : Hp → Prop), (∀ z B4 H4, Gr (Md d) B' H' B4 H4 → Dk B4 H4 d → P z → KT (.int z) H4) →
      g x (wipe σ vs) H'' fun σ2 H2 => wipe σ2 vs = wipe σ vs ∧ tt σ2 H2 fun b H3 => if b = true then te σ2 H3 KT else KF H3)
    (hd : ∀ B' H' (ns : List Int), Gr (Md d) B H1 B' H' → Dk B' H' d → B' D = none → H' D = some (.lst (ns.map V.int)) → ns.length = n → (∀ z ∈ ns, P z) → Qd H') : tLcR J g tt te vs σ H1 D Qd := by
  have hdD : d ≠ D := k.at_.ne hD
  refine lcB (M := Md d) w (fun i B' H' acc => Dk B' H' d ∧ ∃ ns : List Int, acc = ns.map V.int ∧ ns.length = i ∧ ∀ z ∈ ns, P z) k.k hD (fun z => hdD z.symm) ⟨k, [], rfl, rfl, fun z hz => nomatch hz⟩ (fun i B' H' acc l hb ⟨⟨k1, k2, k3⟩, s⟩ => ⟨⟨fun a u e => by rw [upd_ne (ne_of_none e hb)]; exact k1 a u e, k2, k3.upd hdD⟩, s⟩) (fun i B' H' acc _ g s => hG B' H' g s.1) ?_ ?_
  · intro i x B' H' H'' acc hi g b e s y KT KF kt kf
    obtain ⟨dk', ns, rfl, hl, hp⟩ := s
    refine hs i x B' H' H'' hi g dk' y KT KF fun z B4 H4 g4 d4 pz => kt _ B4 H4 g4 (by rw [List.length_map]; omega) ⟨d4, ns ++ [z], by rw [List.map_append]; rfl, by rw [List.length_append, hl]; rfl, fun q hq => ?_⟩
    rcases List.mem_append.mp hq with h | h
    · exact hp q h
    · rw [List.mem_singleton.mp h]; exact pz
  · intro B' H' acc g b e s
    obtain ⟨dk', ns, rfl, hl, hp⟩ := s
    exact hd B' H' ns g dk' b e hl hp
end
section
variable {X : Cx} {σ : L2.St} {H : Hp} {Q : VK} {e o : Expr} {pos ap : Pos}
/-- a built-in type's method -/
theorem e_bm {T : String} {name : Str} {id : String} {r : V → List V → Hp → VK → Prop} {es : List Expr} (pa : PySem.PlainAttrs T) (slot : PySem.Slot T name id) (hty : typeOf (.builtin id) = pure (.type "method_descriptor")) (hm : MtR X id r)
    (h : WE X o σ H fun x H1 => tyV X.K T x H1 ∧ WA X (e :: es) σ H1 fun vs H2 => r x vs H2 Q) (hbase : attributeBase o name X.env (eval o X.env) = eval o X.env := by rfl)
    (hfew : ((backTo pos (starEach (e :: es) X.env)).all (fun x => !x.1) && (backToKw pos (keywordEach [] X.env)).all (fun x => x.1.isSome)
      && decide ((e :: es).length + ([] : List Keyword).length + (if ([] : List Keyword).isEmpty then 0 else 1) < 30)) = true := by rfl)
    (hline : (ap.endLine == pos.line) = true := by rfl) (hs : starEach (e :: es) X.env = (false, eval e X.env) :: starEach es X.env := by rfl) (hplain : (backTo pos (starEach es X.env)).any (·.1) = false := by rfl) : WE X (.Call (.Attribute o name ap) (e :: es) [] pos) σ H Q :=
  ⟨_, pe_bm pa slot hty hm WE.pe WA.pa hbase hfew hline hs hplain, h⟩
end
/-- what holds behind a statement, on all its ways -/
theorem s_join {X : Cx} {st : Stmt} {D : Ends} {σ : L2.St} {H : Hp} (P : L2.St → Hp → Prop) (h1 : WS X st { D with nx := P } σ H) (h2 : ∀ σ H, P σ H → D.nx σ H) : WS X st D σ H := by
  refine ⟨fun D σ H => ∃ P, WS X st { D with nx := P } σ H ∧ ∀ σ H, P σ H → D.nx σ H, ⟨fun pins s σ H D I h => ?_⟩, P, h1, h2⟩
  obtain ⟨P, h1, h2⟩ := h
  refine thn (WS.ps.run pins s σ H _ I h1) fun f s' q => ?_
  cases f with
  | next => obtain ⟨σ', H', I', q⟩ := q; exact ⟨σ', H', I', h2 _ _ q⟩
  | brk => exact q
  | cont => exact q
  | ret u => exact q
theorem walk_r0 {n : Nat} : Walk (Itr 0 n) n (fun _ => True) (fun i H x H' => H' = H ∧ x = .int (i : Nat)) :=
  (walk_range (lo := 0)).mono (fun _ h => h) fun i H x H' _ _ y => ⟨y.1, by rw [y.2]; show V.int (0 + (i : Nat)) = _; rw [Int.zero_add]⟩
end Lw
namespace Lw
open PySem PySem.W PySem.Calls PyProof.Rows Builtin
section
variable {prog : Program} {w : World} {A : Around} {E : Value → Shared → Prop} {s : Shared} {K : Frag} {x y C f : Addr} {ox oy : Obj} {od oe : Option Obj}
theorem ifBound_B {M : Model} {id : String} {name : Str} {args : List Value} {Q : Option Value → Shared → Prop} (X : K.In s.heap) (I : InstAt s.heap x ox C od) (hs : findIn K (.ref C) name = some (some (.builtin id)))
    (hb : ∀ self, bindSpecial (.builtin id) self = pure (.builtin id, [self])) (h : wpAny M A (call (.builtin id) (.ref x :: args)) (fun v => Q (some v)) E s) : wpAny M A (callSpecialIfBound? (.ref x) name args) Q E s := by
  simp only [callSpecialIfBound?, bindSpecialIfBound?]
  refine wpAny_holding (wpAny_bind (wpAny_bind (wpAny_bind (I.type.here ((looks_findIn X hs).here ?_)))))
  simp only [hb]
  refine wpAny_bind (wpAny_askSetting (wpAny_ite ?_))
  have fin : wpAny M A (call (.builtin id) ([.ref x] ++ args) >>= fun v => pure (some v)) Q E s := wpAny_bind (wpAny_mono h (fun v s' h' => wpAny_pure h') fun _ _ h' => h')
  split
  · exact wpAny_bind (wpAny_pure (wpAny_pure fin))
  · exact wpAny_tryCatch (wpAny_bind (wpAny_pure (wpAny_pure fin)))
theorem ne_own {Q : Value → Shared → Prop} (hu : A.units < cLine) (hu1 : A.in1.units < cLine) (X : K.In s.heap) (I : InstAt s.heap x ox C od) (J : InstAt s.heap y oy C oe)
    (hn : findIn K (.ref C) (cmpInfo .NotEq).2.1 = some (some (.builtin "object.__ne__"))) (hm : mroIn K C (.type "object") = some true) (he : findIn K (.ref C) "__eq__" = some (some (.ref f))) (hf : isFn K (.ref f) = true)
    (h : wpAny (model prog w) A.in1 (call (.ref f) [.ref x, .ref y]) (fun v s' => ∃ b, v = .bool b ∧ Q (.bool (!b)) s') E s) : wpAny (model prog w) A (richCompare .NotEq (.ref x) (.ref y)) Q E s := by
  have one : wpAny (model prog w) A (tryCompare (.ref x) (cmpInfo .NotEq).2.1 (.ref y)) (fun r s' => ∃ v, r = some v ∧ Q v s') E s := by
    unfold tryCompare
    refine wpAny_bind (ifBound_B X I hn PySem.F.slot_object_ne.bind ?_)
    refine wpAny_call (codeAny_call_builtin PySem.F.slot_object_ne.plain PySem.F.entry_object_ne (check_slot (i := "object.__ne__") (owner := "object") (n := "__ne__") (by decide +kernel) (by decide +kernel) (I.type.andThen (looks_mroIn X hm)) (PySem.F.args_object_ne_2 _ _) ?_))
    unfold Builtin.«object.__ne__»
    refine wpAny_bind (m := slotArgs "__ne__" 1 _) (wpAny_pure ?_)
    refine wpAny_bind (m := cRoomFor _ _) (wpAny_cRoomFor hu1 ?_)
    refine wpAny_bind (m := callSpecialIfBound? (.ref x) (Str.ofString "__eq__") _) (ifBound_K X I he hf (wpAny_mono h (fun r s' hr => ?_) fun _ _ e => e))
    obtain ⟨b, rfl, hq⟩ := hr
    refine wpAny_bind (m := truthy (.bool b)) (wpAny_truthy_bool ?_)
    exact wpAny_pure (wpAny_pure ⟨_, rfl, hq⟩)
  unfold richCompare
  simp only [oneThing_ref]
  refine wpAny_holding (wpAny_bind (wpAny_cRoomFor hu ?_))
  refine wpAny_bind (I.type.here (wpAny_bind (J.type.here ?_)))
  rw [show (Value.ref C != Value.ref C) = false from by simp]
  simp only [Bool.false_eq_true, if_false]
  refine wpAny_bind (wpAny_pure ?_)
  simp only [Bool.false_eq_true, if_false]
  refine wpAny_bind (wpAny_mono one (fun r s' z => ?_) fun _ _ e => e)
  obtain ⟨v, rfl, hq⟩ := z
  exact wpAny_pure hq
end
end Lw
namespace Lw
open PySem PySem.Spec L2 Evl
/-- the text's own == -/
structure CalE (P : Program) (w : World) (K : PySem.W.Frag) (mg : Str → Option Value) (base : Heap) (C : Addr) (k : Nat) (ps : List Str) (sp : Sp) : Prop where
  ex : ∃ f fd, FnOk P w K mg base CX0 k f fd ps sp ∧ PySem.W.findIn K (.ref C) "__eq__" = some (some (.ref f)) ∧ PySem.W.isFn K (.ref f) = true ∧ Binds K fd ps []
  ne : PySem.W.findIn K (.ref C) (cmpInfo .NotEq).2.1 = some (some (.builtin "object.__ne__"))
  mro : PySem.W.mroIn K C (.type "object") = some true
section
variable {X : Cx} {k : Nat} {C f : Addr} {fd : FuncData} {ps : List Str} {sp : Sp}
def rOwn (C : Addr) (sp : Sp) (g : Bool → Bool) : R2 := fun x y H Q => ∃ a b dx dy fs gs, x = .ref a ∧ y = .ref b ∧ H a = some (.ins C dx fs) ∧ H b = some (.ins C dy gs) ∧ sp [.ref a, .ref b] H (fun v H' => ∃ k, v = .bl k ∧ Q (.bl (g k)) H') E0
theorem op_neOwn (cl : CalE X.prog X.w X.K X.mg X.base C k ps sp) (hr : Room (k + 1) X.A) : OpR X (compareOp .NotEq) (rOwn C sp fun k => !k) := by
  obtain ⟨f, fd, F, hs, hf, hb⟩ := cl.ex
  intro pins s σ H x y u v Q I rx ry h
  obtain ⟨a, b, dx, dy, fs, gs, rfl, rfl, ea, eb, h⟩ := h
  cases (show u = Value.ref a from rx)
  cases (show v = Value.ref b from ry)
  obtain ⟨mA, O, _⟩ := ins_get I.hok ea
  obtain ⟨od, J, _⟩ := O.look
  obtain ⟨mB, O', _⟩ := ins_get I.hok eb
  obtain ⟨od', J', _⟩ := O'.look
  have hl := F.len _ _ _ _ h
  have r2 : Vals [V.ref a, V.ref b] [Value.ref a, Value.ref b] := .cons rfl (.cons rfl .nil)
  refine PySem.W.cmp_ofNotEq (ne_own hr.units0 hr.in1.units0 I.kIn J J' cl.ne cl.mro hs hf ?_)
  refine wpAny_call (codeAny_mono (F.run X.A.in1 X.stack s H ⟨[.ref a, .ref b], []⟩ [.ref a, .ref b] [.ref a, .ref b] _ E0 hr.in1 I.env0.in1 (by
    have := hb s [.ref a, .ref b] I.kIn (by simpa using hl)
    simpa using this) r2 h) fun rr s' hq => ?_)
  cases rr with
  | error e => exact False.elim (pass0 (X := X.nox) pins σ H s e s' (I.wish _) hq)
  | ok fl =>
    cases fl with
    | ret u =>
      obtain ⟨v, H', I3, rv, n, hv, q⟩ := I.after hq
      subst hv
      cases rv
      exact ⟨n, rfl, ⟨.bl (!n), H', I3, rfl, q⟩⟩
    | next => exact False.elim hq
    | brk => exact False.elim hq
    | cont => exact False.elim hq
theorem op_eqOwn (cl : CalE X.prog X.w X.K X.mg X.base C k ps sp) (hr : Room k X.A) : OpR X (compareOp .Eq) (rOwn C sp fun k => k) := by
  obtain ⟨f, fd, F, hs, hf, hb⟩ := cl.ex
  intro pins s σ H x y u v Q I rx ry h
  obtain ⟨a, b, dx, dy, fs, gs, rfl, rfl, ea, eb, h⟩ := h
  cases (show u = Value.ref a from rx)
  cases (show v = Value.ref b from ry)
  obtain ⟨mA, O, _⟩ := ins_get I.hok ea
  obtain ⟨od, J, _⟩ := O.look
  obtain ⟨mB, O', _⟩ := ins_get I.hok eb
  obtain ⟨od', J', _⟩ := O'.look
  obtain ⟨m, hF⟩ := I.fr
  have hl := F.len _ _ _ _ h
  have r2 : Vals [V.ref a, V.ref b] [Value.ref a, Value.ref b] := .cons rfl (.cons rfl .nil)
  show wpAny _ _ (richCompare .Eq (.ref a) (.ref b)) _ _ _
  refine PySem.W.cmp_K (op := .Eq) (tb := .ref C) hr.units0 hF I.ok.mod.kin J J'.type (by simp [PySem.W.notFirst]) hs hf ?_
  refine wpAny_call (codeAny_mono (F.run X.A X.stack s H ⟨[.ref a, .ref b], []⟩ [.ref a, .ref b] [.ref a, .ref b] _ E0 hr I.env0 (by
    have := hb s [.ref a, .ref b] I.kIn (by simpa using hl)
    simpa using this) r2 h) fun rr s' hq => ?_)
  cases rr with
  | error e => exact False.elim (pass0 (X := X.nox) pins σ H s e s' (I.wish _) hq)
  | ok fl =>
    cases fl with
    | ret u =>
      obtain ⟨v, H', I3, rv, n, hv, q⟩ := I.after hq
      subst hv
      cases rv
      exact ⟨.bl n, H', I3, rfl, q⟩
    | next => exact False.elim hq
    | brk => exact False.elim hq
    | cont => exact False.elim hq
end
section
variable {M : Addr → Prop} {B H B1 H1 B' H' : Hp}
/-- knowing less at the start, nothing at the end -/
theorem Gr.base (x : Gr M B1 H B' H') (e : Ex B B1) : Gr M B H B H' := ⟨.refl B, (e.trans x.b).trans x.k, x.h, x.n, fun _ h _ => h⟩
theorem Gr.fresh {d G : Addr} {B2 H2 : Hp} (x : Gr (Md d) B H B1 H1) (y : Gr (Md G) B1 H1 B2 H2) (hG : H G = none) : Gr (Md d) B H B2 H2 :=
  ⟨x.b.trans y.b, y.k, fun a o m h => y.h a o (fun e => by rw [e, hG] at h; cases h) (x.h a o m h), fun a h => y.n a (x.n a h), fun a h1 h2 => y.f a (x.f a h1 h2) (x.n a h2)⟩
theorem ex_put {G : Addr} {o : HO} (k : Ex B H) (e : H G = some o) : Ex (upd B G o) H := fun a u h => by
  by_cases z : a = G
  · subst z
    rw [upd_same] at h
    rw [e, h]
  · rw [upd_ne z] at h
    exact k a u h
end
section
variable {X : Cx} {σ : L2.St} {H : Hp} {Q : VK} {e o a : Expr} {pos p2 p3 ap pos2 : Pos}
/-- a built-in type's method without arguments -/
theorem e_bm0 {T : String} {name : Str} {id : String} {r : V → List V → Hp → VK → Prop} (pa : PySem.PlainAttrs T) (slot : PySem.Slot T name id) (hty : typeOf (.builtin id) = pure (.type "method_descriptor")) (hm : MtR X id r)
    (h : WE X o σ H fun x H1 => tyV X.K T x H1 ∧ r x [] H1 Q) (hbase : attributeBase o name X.env (eval o X.env) = eval o X.env := by rfl) (hline : (ap.endLine == pos.line) = true := by rfl) : WE X (.Call (.Attribute o name ap) [] [] pos) σ H Q :=
  ⟨_, pe_bm0 pa slot hty hm WE.pe hbase hline, h⟩
/-- list(range(n)) -/
theorem e_listRg (hml : X.mg "list" = none) (hmr : X.mg "range" = none) (hc : X.calm = true := by rfl) (hg : Gl X "list" := by rfl) (hg2 : Gl X "range" := by rfl)
    (na : starEach [a] X.env = (false, eval a X.env) :: starEach [] X.env := by rfl) (na2 : starEach [.Call (.Name "range" p3) [a] [] pos2] X.env = (false, eval (.Call (.Name "range" p3) [a] [] pos2) X.env) :: starEach [] X.env := by rfl)
    (h : WE X a σ H fun x H1 => ∃ n, x = .int n ∧ RgOk 0 n ∧ ∀ q, H1 q = none → Q (.ref q) (upd H1 q (.lst (rgV 0 n)))) : WE X (.Call (.Name "list" p2) [.Call (.Name "range" p3) [a] [] pos2] [] pos) σ H Q :=
  ⟨_, pe_listRg hc hg hml (prg_1 hg2 hmr WE.pe na) na2, h⟩
end
/-- the parameters' order -/
def perm2 {α : Type} : List α → List α
  | [x, y] => [y, x]
  | l => l
def perm3 {α : Type} : List α → List α
  | [x, y, z] => [z, y, x]
  | l => l
theorem vals_perm2 {vs : List V} {us : List Value} (r : Vals vs us) : Vals (perm2 vs) (perm2 us) :=
  match r with
  | .nil => .nil
  | .cons a .nil => .cons a .nil
  | .cons a (.cons b .nil) => .cons b (.cons a .nil)
  | .cons a (.cons b (.cons c d)) => .cons a (.cons b (.cons c d))
theorem vals_perm3 {vs : List V} {us : List Value} (r : Vals vs us) : Vals (perm3 vs) (perm3 us) :=
  match r with
  | .nil => .nil
  | .cons a .nil => .cons a .nil
  | .cons a (.cons b .nil) => .cons a (.cons b .nil)
  | .cons a (.cons b (.cons c .nil)) => .cons c (.cons b (.cons a .nil))
  | .cons a (.cons b (.cons c (.cons d e))) => .cons a (.cons b (.cons c (.cons d e)))
end Lw
namespace PySem
open Sem (wp)
theorem tree_kw {prog : Program} {w : World} {A : Around} {E : Value → Shared → Prop} {s : Shared} {id : String} {b : Builtin} {args : List Value} {kw : List (Str × Value)} {Q : Value → Shared → Prop} (hk : builtinKind id = none) (hp : plainId id = true)
    (hb : entryFor table id = some b) (ha : argsOk id ⟨args, kw⟩)
    (hc : wpAny (model prog w) A.in1 (b ⟨args, kw⟩) (fun fin s' => match fin with
      | .done f => (match (Except.ok f : Result) with | .ok (.ret v) => Q v s' | .ok _ => False | .error e => E e s')
      | .again c' => c'.quiet = true ∧ codeAny (model prog w) A c' (fun r s' => match r with | .ok (.ret v) => Q v s' | .ok _ => False | .error e => E e s') s') E s) : wpAny (model prog w) A (call (.builtin id) args kw) Q E s := by
  refine wpAny_call (codeAny_call_builtin hp hb ?_)
  simp only [checkBuiltinCall, hk]
  cases hsig : Manifest.signature? id with
  | none => exact wpAny_pure hc
  | some sig =>
    have ha' : Bind.checkArgs id sig ⟨args, kw⟩ = pure () := by simpa only [argsOk, hsig] using ha
    simp only [ha']
    exact wpAny_pure hc

section
variable {prog : Program} {w : World} {A : Around} {R : Result → Shared → Prop} {I : Addr} {fp wr : List Addr} {n : Nat} {P : Nat → Value → Prop} {St : Nat → Heap → Prop}
theorem best_max (d : Value) (W : Walks prog w A.in1 I fp wr n P St) (bt : Nat → Nat → Bool) (hcmp : CmpOf prog w A.in1 .Gt P bt) (S : Addr) (hSf : S ∉ fp) :
    ∀ (k j : Nat) (s : Shared) (its : Array Value) (c : Nat), n - j = k → j ≤ n → St j s.heap →
    ((j = 0 ∧ its = #[]) ∨ ∃ vb, its = #[vb, vb] ∧ 0 < j ∧ P (argBest bt (j - 1)) vb) →
    s.heap.get? S = some { cls := .type "list", dict := none, data := .seq its c, slots := #[] } →
    (∀ v h' tk, (n = 0 ∧ v = d ∨ 0 < n ∧ P (argBest bt (n - 1)) v) → (∀ b o, b ∉ wr → b ≠ S → s.heap.get? b = some o → h'.get? b = some o) → R (.ok (.ret v)) { s with heap := h', toks := tk }) →
    codeAny (model prog w) A (.builtin "max.loop" ⟨[.ref I, .none, .ref S], [("default", d)]⟩) R s := by
  have hSw : S ∉ wr := fun h => hSf (W.sub _ h)
  have hn : (toString "max" ++ toString ".loop" : String) = "max.loop" := by decide
  intro k
  induction k with
  | zero =>
    intro j s its c hk hj hst hi hS hR
    have hin : j = n := by omega
    subst hin
    refine codeAny_builtin F.entry_max_loop ?_
    rw [Around.under_plainId F.plain_max_loop _]
    show wpAny _ A.in1 (seqItems? (.ref S) >>= _) _ _ s
    refine wpAny_bind (wpAny_seqItems hS rfl ?_)
    show wpAny _ A.in1 (tryCatch (pyNext (.ref I)) _ >>= _) _ _ s
    refine wpAny_bind (wpAny_tryCatch (W.done s _ _ hst fun h' tk hk' => ?_))
    rcases hi with ⟨e0, rfl⟩ | ⟨vb, rfl, h0, hP⟩
    · refine wpAny_bind (wpAny_rule ?_)
      exact wpAny_pure (hR d _ tk (.inl ⟨e0, rfl⟩) fun b o hbw _ e => hk' b o hbw e)
    · have hS' := hk' S _ hSw hS
      show wpAny _ A.in1 (updateSeq S (fun _ => #[]) >>= _) _ _ _
      refine wpAny_bind ?_
      refine wpAny_updateSeq hS' rfl (wpAny_bind (wpAny_letGo (wpAny_pure ?_)))
      exact hR vb _ tk (.inr ⟨h0, hP⟩) fun b o hbw hbS e => (Heap.get?_update_other _ _ (Ne.symm hbS)).trans (hk' b o hbw e)
  | succ k ih =>
    intro j s its c hk hj hst hi hS hR
    have hlt : j < n := by omega
    have go : ∀ {h' : Heap} {tk} {v : Value} (c' : Nat), (∀ b o, b ∉ wr → b ≠ S → s.heap.get? b = some o → h'.get? b = some o) → St (j + 1) h' → P (argBest bt j) v → h'.get? S = some { cls := .type "list", dict := none, data := .seq #[v, v] c', slots := #[] } →
        codeAny (model prog w) A (.builtin "max.loop" ⟨[.ref I, .none, .ref S], [("default", d)]⟩) R { s with heap := h', toks := tk } := fun c' kp st hv hS' =>
      ih (j + 1) _ #[_, _] c' (by omega) hlt st (.inr ⟨_, rfl, Nat.succ_pos _, hv⟩) hS' fun v' h'' tk'' hP' hk'' => hR v' h'' tk'' hP' fun b o hbw hbS e => hk'' b o hbw hbS (kp b o hbw hbS e)
    refine codeAny_builtin F.entry_max_loop ?_
    rw [Around.under_plainId F.plain_max_loop _]
    show wpAny _ A.in1 (seqItems? (.ref S) >>= _) _ _ s
    refine wpAny_bind (wpAny_seqItems hS rfl ?_)
    show wpAny _ A.in1 (tryCatch (pyNext (.ref I)) _ >>= _) _ _ s
    refine wpAny_bind (wpAny_tryCatch (W.item j s _ _ hlt hst fun v h' tk hP hst' hk' => ?_))
    have hS' := hk' S _ hSw hS
    rcases hi with ⟨e0, rfl⟩ | ⟨vb, rfl, h0, hPb⟩
    · subst e0
      show wpAny _ A.in1 (updateSeq S (fun _ => #[v, v]) >>= _) _ _ _
      refine wpAny_bind ?_
      refine wpAny_updateSeq hS' rfl ?_
      rw [hn]
      refine wpAny_pure ⟨plainId_quiet F.plain_max_loop _, go _ (fun b o hbw hbS e => (Heap.get?_update_other _ _ (Ne.symm hbS)).trans (hk' b o hbw e)) (W.frame _ _ _ hst' fun b hbf o e => ?_) hP (Heap.get?_update_self _ hS' rfl)⟩
      exact (Heap.get?_update_other _ _ (fun h : S = b => hSf (by rw [h]; exact hbf))).trans e
    · obtain ⟨i, rfl⟩ : ∃ i, j = i + 1 := ⟨j - 1, by omega⟩
      show wpAny _ A.in1 (tryCatch (holding [v, v] (richCompare .Gt v vb >>= _)) _ >>= _) _ _ _
      refine wpAny_bind (wpAny_tryCatch (wpAny_holding (wpAny_bind (hcmp (i + 1) (argBest bt i) v vb _ _ _ hP hPb ?_))))
      refine wpAny_bind (wpAny_holding (wpAny_truthy_bool ?_))
      refine wpAny_bind (wpAny_letGo (wpAny_pure ?_))
      cases hb : bt (i + 1) (argBest bt i) with
      | true =>
        simp only [if_true]
        refine wpAny_bind ?_
        refine wpAny_updateSeq hS' rfl (wpAny_bind (wpAny_letGo ?_))
        rw [hn]
        refine wpAny_pure ⟨plainId_quiet F.plain_max_loop _, go _ (fun b o hbw hbS e => (Heap.get?_update_other _ _ (Ne.symm hbS)).trans (hk' b o hbw e)) (W.frame _ _ _ hst' fun b hbf o e => ?_) (by simp only [argBest, hb, if_true]; exact hP) (Heap.get?_update_self _ hS' rfl)⟩
        exact (Heap.get?_update_other _ _ (fun h : S = b => hSf (by rw [h]; exact hbf))).trans e
      | false =>
        simp only [Bool.false_eq_true, if_false]
        refine wpAny_bind (wpAny_letGo ?_)
        rw [hn]
        exact wpAny_pure ⟨plainId_quiet F.plain_max_loop _, go c (fun b o hbw _ e => hk' b o hbw e) hst' (by simp only [argBest, hb, Bool.false_eq_true, if_false]; exact hPb) hS'⟩
theorem args_maxD (a d : Value) : argsOk "max" ⟨[a], [("default", d)]⟩ := by unfold argsOk; kernel_rfl
end
section
variable {prog : Program} {w : World} {A : Around} {E : Value → Shared → Prop} {s : Shared} {l : Addr} {xs : Array (Int × Tok)}
theorem max_default {Q : Value → Shared → Prop} (d : Value) (hh : A.handled = none) (hl : s.heap.IsList l (intItems xs))
    (h : ∀ v h' tk, (xs.size = 0 ∧ v = d ∨ 0 < xs.size ∧ (intItems xs)[argBest (fun i j => decide (numAt xs i > numAt xs j)) (xs.size - 1)]? = some v) → (∀ b o, s.heap.get? b = some o → h'.get? b = some o) → Q v { s with heap := h', toks := tk }) :
    wpAny (model prog w) A (call (.builtin "max") [.ref l] [("default", d)]) Q E s := by
  have hn : (toString "max" ++ toString ".loop" : String) = "max.loop" := by decide
  refine tree_kw F.kind_max F.plain_max F.entry_max (args_maxD _ _) ?_
  show wpAny _ A.in1 (Builtin.Builtins.bindParams "max" ["key", "default"] 0 ⟨[], [("default", d)]⟩ >>= _) _ _ s
  refine wpAny_bind (wpAny_of_eq (show Builtin.Builtins.bindParams "max" ["key", "default"] 0 ⟨[], [("default", d)]⟩ = pure [none, some d] from rfl) ?_)
  refine wpAny_bind (wpAny_pure ?_)
  refine wpAny_bind (iter_intList hl fun s₂ e st hfp hlI => ?_)
  subst e
  refine wpAny_bind (wpAny_newObj_type ?_)
  have W := Walks.list (prog := prog) (w := w) (A := A.in1) hh _ l hlI (intItems xs)
  rw [hn]
  refine wpAny_pure ⟨plainId_quiet F.plain_max_loop _, best_max d W _ (CmpOf.ints_gt (numAt xs) (fun _ _ => intItems_at)) _ (fun hm => Nat.lt_irrefl _ (hfp _ hm)) _ 0 _ #[] _ rfl (Nat.zero_le _) (W.frame _ _ _ st fun b _ o e => Heap.get?_push_of_some _ e) (.inl ⟨rfl, rfl⟩) (Heap.get?_push_size _ rfl) fun v h' tk hP hk => ?_⟩
  have hz : (intItems xs).size = xs.size := by simp [intItems]
  rw [hz] at hP
  refine h v h' tk hP fun b o e => ?_
  have hb := Heap.lt_size e
  refine hk b o (fun hm => ?_) (Nat.ne_of_lt (by rw [Heap.size_push]; exact Nat.lt_succ_of_lt hb)) (Heap.get?_push_of_some _ (Heap.get?_push_of_some _ e))
  rcases List.mem_cons.mp hm with e1 | hm
  · exact absurd (e1 ▸ hb) (Nat.lt_irrefl _)
  · cases hm
end

section
variable {prog : Program} {w : World} {A : Around} {R : Result → Shared → Prop} {I : Addr} {fp wr : List Addr} {n : Nat} {P : Nat → Value → Prop} {St : Nat → Heap → Prop}
theorem best_min (d : Value) (W : Walks prog w A.in1 I fp wr n P St) (bt : Nat → Nat → Bool) (hcmp : CmpOf prog w A.in1 .Lt P bt) (S : Addr) (hSf : S ∉ fp) :
    ∀ (k j : Nat) (s : Shared) (its : Array Value) (c : Nat), n - j = k → j ≤ n → St j s.heap →
    ((j = 0 ∧ its = #[]) ∨ ∃ vb, its = #[vb, vb] ∧ 0 < j ∧ P (argBest bt (j - 1)) vb) →
    s.heap.get? S = some { cls := .type "list", dict := none, data := .seq its c, slots := #[] } →
    (∀ v h' tk, (n = 0 ∧ v = d ∨ 0 < n ∧ P (argBest bt (n - 1)) v) → (∀ b o, b ∉ wr → b ≠ S → s.heap.get? b = some o → h'.get? b = some o) → R (.ok (.ret v)) { s with heap := h', toks := tk }) →
    codeAny (model prog w) A (.builtin "min.loop" ⟨[.ref I, .none, .ref S], [("default", d)]⟩) R s := by
  have hSw : S ∉ wr := fun h => hSf (W.sub _ h)
  have hn : (toString "min" ++ toString ".loop" : String) = "min.loop" := by decide
  intro k
  induction k with
  | zero =>
    intro j s its c hk hj hst hi hS hR
    have hin : j = n := by omega
    subst hin
    refine codeAny_builtin F.entry_min_loop ?_
    rw [Around.under_plainId F.plain_min_loop _]
    show wpAny _ A.in1 (seqItems? (.ref S) >>= _) _ _ s
    refine wpAny_bind (wpAny_seqItems hS rfl ?_)
    show wpAny _ A.in1 (tryCatch (pyNext (.ref I)) _ >>= _) _ _ s
    refine wpAny_bind (wpAny_tryCatch (W.done s _ _ hst fun h' tk hk' => ?_))
    rcases hi with ⟨e0, rfl⟩ | ⟨vb, rfl, h0, hP⟩
    · refine wpAny_bind (wpAny_rule ?_)
      exact wpAny_pure (hR d _ tk (.inl ⟨e0, rfl⟩) fun b o hbw _ e => hk' b o hbw e)
    · have hS' := hk' S _ hSw hS
      show wpAny _ A.in1 (updateSeq S (fun _ => #[]) >>= _) _ _ _
      refine wpAny_bind ?_
      refine wpAny_updateSeq hS' rfl (wpAny_bind (wpAny_letGo (wpAny_pure ?_)))
      exact hR vb _ tk (.inr ⟨h0, hP⟩) fun b o hbw hbS e => (Heap.get?_update_other _ _ (Ne.symm hbS)).trans (hk' b o hbw e)
  | succ k ih =>
    intro j s its c hk hj hst hi hS hR
    have hlt : j < n := by omega
    have go : ∀ {h' : Heap} {tk} {v : Value} (c' : Nat), (∀ b o, b ∉ wr → b ≠ S → s.heap.get? b = some o → h'.get? b = some o) → St (j + 1) h' → P (argBest bt j) v → h'.get? S = some { cls := .type "list", dict := none, data := .seq #[v, v] c', slots := #[] } →
        codeAny (model prog w) A (.builtin "min.loop" ⟨[.ref I, .none, .ref S], [("default", d)]⟩) R { s with heap := h', toks := tk } := fun c' kp st hv hS' =>
      ih (j + 1) _ #[_, _] c' (by omega) hlt st (.inr ⟨_, rfl, Nat.succ_pos _, hv⟩) hS' fun v' h'' tk'' hP' hk'' => hR v' h'' tk'' hP' fun b o hbw hbS e => hk'' b o hbw hbS (kp b o hbw hbS e)
    refine codeAny_builtin F.entry_min_loop ?_
    rw [Around.under_plainId F.plain_min_loop _]
    show wpAny _ A.in1 (seqItems? (.ref S) >>= _) _ _ s
    refine wpAny_bind (wpAny_seqItems hS rfl ?_)
    show wpAny _ A.in1 (tryCatch (pyNext (.ref I)) _ >>= _) _ _ s
    refine wpAny_bind (wpAny_tryCatch (W.item j s _ _ hlt hst fun v h' tk hP hst' hk' => ?_))
    have hS' := hk' S _ hSw hS
    rcases hi with ⟨e0, rfl⟩ | ⟨vb, rfl, h0, hPb⟩
    · subst e0
      show wpAny _ A.in1 (updateSeq S (fun _ => #[v, v]) >>= _) _ _ _
      refine wpAny_bind ?_
      refine wpAny_updateSeq hS' rfl ?_
      rw [hn]
      refine wpAny_pure ⟨plainId_quiet F.plain_min_loop _, go _ (fun b o hbw hbS e => (Heap.get?_update_other _ _ (Ne.symm hbS)).trans (hk' b o hbw e)) (W.frame _ _ _ hst' fun b hbf o e => ?_) hP (Heap.get?_update_self _ hS' rfl)⟩
      exact (Heap.get?_update_other _ _ (fun h : S = b => hSf (by rw [h]; exact hbf))).trans e
    · obtain ⟨i, rfl⟩ : ∃ i, j = i + 1 := ⟨j - 1, by omega⟩
      show wpAny _ A.in1 (tryCatch (holding [v, v] (richCompare .Lt v vb >>= _)) _ >>= _) _ _ _
      refine wpAny_bind (wpAny_tryCatch (wpAny_holding (wpAny_bind (hcmp (i + 1) (argBest bt i) v vb _ _ _ hP hPb ?_))))
      refine wpAny_bind (wpAny_holding (wpAny_truthy_bool ?_))
      refine wpAny_bind (wpAny_letGo (wpAny_pure ?_))
      cases hb : bt (i + 1) (argBest bt i) with
      | true =>
        simp only [if_true]
        refine wpAny_bind ?_
        refine wpAny_updateSeq hS' rfl (wpAny_bind (wpAny_letGo ?_))
        rw [hn]
        refine wpAny_pure ⟨plainId_quiet F.plain_min_loop _, go _ (fun b o hbw hbS e => (Heap.get?_update_other _ _ (Ne.symm hbS)).trans (hk' b o hbw e)) (W.frame _ _ _ hst' fun b hbf o e => ?_) (by simp only [argBest, hb, if_true]; exact hP) (Heap.get?_update_self _ hS' rfl)⟩
        exact (Heap.get?_update_other _ _ (fun h : S = b => hSf (by rw [h]; exact hbf))).trans e
      | false =>
        simp only [Bool.false_eq_true, if_false]
        refine wpAny_bind (wpAny_letGo ?_)
        rw [hn]
        exact wpAny_pure ⟨plainId_quiet F.plain_min_loop _, go c (fun b o hbw _ e => hk' b o hbw e) hst' (by simp only [argBest, hb, Bool.false_eq_true, if_false]; exact hPb) hS'⟩
theorem args_minD (a d : Value) : argsOk "min" ⟨[a], [("default", d)]⟩ := by unfold argsOk; kernel_rfl
end
section
variable {prog : Program} {w : World} {A : Around} {E : Value → Shared → Prop} {s : Shared} {l : Addr} {xs : Array (Int × Tok)}
theorem min_default {Q : Value → Shared → Prop} (d : Value) (hh : A.handled = none) (hl : s.heap.IsList l (intItems xs))
    (h : ∀ v h' tk, (xs.size = 0 ∧ v = d ∨ 0 < xs.size ∧ (intItems xs)[argBest (fun i j => decide (numAt xs i < numAt xs j)) (xs.size - 1)]? = some v) → (∀ b o, s.heap.get? b = some o → h'.get? b = some o) → Q v { s with heap := h', toks := tk }) :
    wpAny (model prog w) A (call (.builtin "min") [.ref l] [("default", d)]) Q E s := by
  have hn : (toString "min" ++ toString ".loop" : String) = "min.loop" := by decide
  refine tree_kw F.kind_min F.plain_min F.entry_min (args_minD _ _) ?_
  show wpAny _ A.in1 (Builtin.Builtins.bindParams "min" ["key", "default"] 0 ⟨[], [("default", d)]⟩ >>= _) _ _ s
  refine wpAny_bind (wpAny_of_eq (show Builtin.Builtins.bindParams "min" ["key", "default"] 0 ⟨[], [("default", d)]⟩ = pure [none, some d] from rfl) ?_)
  refine wpAny_bind (wpAny_pure ?_)
  refine wpAny_bind (iter_intList hl fun s₂ e st hfp hlI => ?_)
  subst e
  refine wpAny_bind (wpAny_newObj_type ?_)
  have W := Walks.list (prog := prog) (w := w) (A := A.in1) hh _ l hlI (intItems xs)
  rw [hn]
  refine wpAny_pure ⟨plainId_quiet F.plain_min_loop _, best_min d W _ (CmpOf.ints_lt (numAt xs) (fun _ _ => intItems_at)) _ (fun hm => Nat.lt_irrefl _ (hfp _ hm)) _ 0 _ #[] _ rfl (Nat.zero_le _) (W.frame _ _ _ st fun b _ o e => Heap.get?_push_of_some _ e) (.inl ⟨rfl, rfl⟩) (Heap.get?_push_size _ rfl) fun v h' tk hP hk => ?_⟩
  have hz : (intItems xs).size = xs.size := by simp [intItems]
  rw [hz] at hP
  refine h v h' tk hP fun b o e => ?_
  have hb := Heap.lt_size e
  refine hk b o (fun hm => ?_) (Nat.ne_of_lt (by rw [Heap.size_push]; exact Nat.lt_succ_of_lt hb)) (Heap.get?_push_of_some _ (Heap.get?_push_of_some _ e))
  rcases List.mem_cons.mp hm with e1 | hm
  · exact absurd (e1 ▸ hb) (Nat.lt_irrefl _)
  · cases hm
end
end PySem
namespace Lw
open PySem PySem.Spec L2 Evl PyProof.Rows
/-- max(xs, default=d), min(xs, default=d) of a list of ints -/
def rBest (K : PySem.W.Frag) (R : Int → Int → Prop) : List V → List V → Hp → VK → Prop := fun vs zs H Q => ∃ (a : Addr) (ns : List Int) (d : V), vs = [V.ref a] ∧ zs = [d] ∧ SqL K H a (ns.map V.int) ∧ (ns = [] → Q d H) ∧ ∀ m, m ∈ ns → (∀ y, y ∈ ns → R y m) → Q (.int m) H
section
variable {X : Cx}
theorem cr_maxD (hc : X.calm = true) : CallRK X (.builtin "max") ["default"] (rBest X.K fun y m => y ≤ m) := by
  intro pins s σ H vs zs us ws Q I r rz h
  obtain ⟨a, ns, d, rfl, rfl, hs, q0, q⟩ := h
  obtain ⟨its, rv, hl, _⟩ := I.list hs
  rw [Vals.ref1 r]
  obtain ⟨d', rfl, rd⟩ := vals1 rz
  have hi := rv.ints
  obtain ⟨xs, e⟩ := hi.allInts.items
  have hn : numsOf (intItems xs).toList = ns := by rw [← e]; exact hi.numsOf
  rw [nums_intItems] at hn
  subst hn
  have hl' : s.heap.IsList a (intItems xs) := e ▸ hl.isList
  refine max_default d' (I.ok.hd hc) hl' fun v h' tk hP hk => ?_
  rcases hP with ⟨h0, rfl⟩ | ⟨h0, hv⟩
  · have e0 : xs = #[] := Array.eq_empty_of_size_eq_zero h0
    subst e0
    exact ⟨d, H, I.kept hk, rd, q0 rfl⟩
  · obtain ⟨t, rfl⟩ := intItems_at hv
    obtain ⟨h1, h2⟩ := argBest_gt (numAt xs) (xs.size - 1)
    refine ⟨.int _, H, I.kept hk, ⟨_, rfl⟩, q _ ?_ fun b hb => ?_⟩
    · rw [numAt_eq]; exact PySem.getD_mem (by rw [List.length_map, Array.length_toList]; omega)
    · obtain ⟨j, hj, rfl⟩ := mem_getD hb
      rw [List.length_map, Array.length_toList] at hj
      rw [← numAt_eq]; exact h2 j (by omega)
theorem cr_minD (hc : X.calm = true) : CallRK X (.builtin "min") ["default"] (rBest X.K fun y m => m ≤ y) := by
  intro pins s σ H vs zs us ws Q I r rz h
  obtain ⟨a, ns, d, rfl, rfl, hs, q0, q⟩ := h
  obtain ⟨its, rv, hl, _⟩ := I.list hs
  rw [Vals.ref1 r]
  obtain ⟨d', rfl, rd⟩ := vals1 rz
  have hi := rv.ints
  obtain ⟨xs, e⟩ := hi.allInts.items
  have hn : numsOf (intItems xs).toList = ns := by rw [← e]; exact hi.numsOf
  rw [nums_intItems] at hn
  subst hn
  have hl' : s.heap.IsList a (intItems xs) := e ▸ hl.isList
  refine min_default d' (I.ok.hd hc) hl' fun v h' tk hP hk => ?_
  rcases hP with ⟨h0, rfl⟩ | ⟨h0, hv⟩
  · have e0 : xs = #[] := Array.eq_empty_of_size_eq_zero h0
    subst e0
    exact ⟨d, H, I.kept hk, rd, q0 rfl⟩
  · obtain ⟨t, rfl⟩ := intItems_at hv
    obtain ⟨h1, h2⟩ := argBest_lt (numAt xs) (xs.size - 1)
    refine ⟨.int _, H, I.kept hk, ⟨_, rfl⟩, q _ ?_ fun b hb => ?_⟩
    · rw [numAt_eq]; exact PySem.getD_mem (by rw [List.length_map, Array.length_toList]; omega)
    · obtain ⟨j, hj, rfl⟩ := mem_getD hb
      rw [List.length_map, Array.length_toList] at hj
      rw [← numAt_eq]; exact h2 j (by omega)
end
section
variable {X : Cx} {σ : L2.St} {H : Hp} {Q : VK} {x : Str} {p pos p2 : Pos} {e o i a : Expr} {es : List Expr} {kws : List Keyword}
theorem e_bltK {id : String} {ks : List Str} {r : List V → List V → Hp → VK → Prop} (hc : CallRK X (.builtin id) ks r) (hm : X.mg x = none) (hv : bootBuiltins x = some (.builtin id)) (h : WA X (e :: es) σ H fun vs H1 => WK X kws σ H1 fun zs H2 => r vs zs H2 Q)
    (hg : Gl X x := by rfl) (hn : x ≠ "__name__" := by decide) (hdb : (x == ("__debug__" : Str)) = false := by decide)
    (he : backTo pos (starEach (e :: es) X.env) = (false, eval e X.env) :: backTo pos (starEach es X.env) := by rfl) (hpl : (backTo pos (starEach (e :: es) X.env)).any (·.1) = false := by rfl)
    (hall : (backToKw pos (keywordEach kws X.env)).all (·.1.isSome) = true := by rfl) (hnone : (backToKw pos (keywordEach kws X.env)).any (·.1.isNone) = false := by rfl) (hks : (backToKw pos (keywordEach kws X.env)).filterMap (·.1) = ks := by rfl) :
    WE X (.Call (.Name x p) (e :: es) kws pos) σ H Q := ⟨_, pe_callBK hc hg hm hv WA.pa WK.pk hn hdb he hpl hall hnone hks, h⟩
/-! dicts -/
theorem e_dget (hu : X.A.units + 1 < cLine) (hs : NoSl i := by intro _ _; rfl) (h : WE X o σ H fun x H1 => WE X i σ H1 fun y H2 => ∃ a v, x = .ref a ∧ DGet H2 a y (some v) ∧ Q v H2) : WE X (.Subscript o i pos) σ H Q := ⟨_, pe_dget hu WE.pe WE.pe hs, h⟩
theorem t_dnotin {QT : Bool → Hp → Prop} (hu : X.A.units + 1 < cLine) (h1 : behindInMarks .NotIn o = false := by first | exact nobehind _ (by decide) (by decide) | rfl)
    (h : WE X i σ H fun y H1 => WE X o σ H1 fun x H2 => ∃ a r, x = .ref a ∧ DGet H2 a y r ∧ QT (!r.isSome) H2) : WT X (.Compare i [.NotIn] [o] pos) σ H QT := by
  refine ⟨_, pt_cmp (pc_dnotin hu WE.pe WE.pe) h1, ?_⟩
  show WE X i σ H fun y H1 => WE X o σ H1 fun x H2 => ∃ a r, x = .ref a ∧ DGet H2 a y r ∧ ∃ k, V.bl (!r.isSome) = .bl k ∧ QT k H2
  obtain ⟨t, ht, q⟩ := h
  refine ⟨t, ht, ?_⟩
  have e : (fun (y : V) (H1 : Hp) => WE X o σ H1 fun x H2 => ∃ a r, x = .ref a ∧ DGet H2 a y r ∧ ∃ k, V.bl (!r.isSome) = .bl k ∧ QT k H2) = (fun y H1 => WE X o σ H1 fun x H2 => ∃ a r, x = .ref a ∧ DGet H2 a y r ∧ QT (!r.isSome) H2) := by
    funext y H1
    congr 1
    funext x H2
    apply propext
    constructor
    · rintro ⟨a, r, e, g, k, ek, q⟩; cases ek; exact ⟨a, r, e, g, q⟩
    · rintro ⟨a, r, e, g, q⟩; exact ⟨a, r, e, g, _, rfl, q⟩
  rw [e]
  exact q
theorem s_dput {D : Ends} {value : Expr} {pos' : Pos} (hu : X.A.units + 1 < cLine) (hs : swapsWith value (some (.Subscript o i pos')) pos.line X.env = pure false := by rfl)
    (h : WE X value σ H fun v H1 => WE X o σ H1 fun x H2 => WE X i σ H2 fun y H3 => ∃ a H4, x = .ref a ∧ DPut H3 a y v H4 ∧ D.nx σ H4) : WS X (.Assign [.Subscript o i pos'] value pos) D σ H := ⟨_, ps_dput hu WE.pe WE.pe WE.pe hs, h⟩
theorem e_dnew (h : ∀ p, H p = none → Q (.ref p) (upd H p (.dK []))) : WE X (.Dict [] [] pos) σ H Q := ⟨_, pe_dnewK, h⟩
def tDcR (J : It) (g : TG) (tt : TT) (tk tv : TE) (vs : List Nat) (σ : L2.St) (H1 : Hp) (D : Addr) (Qd : Hp → Prop) : Prop := ∃ W : Nat → Nat → Hp → Prop, (∃ m, W 0 m (upd H1 D (.dK []))) ∧ ∀ i m H, W i m H →
  (J.stop i H ∧ Qd H) ∨ (J.go i H ∧ ∃ Nx : Hp → Prop, (∀ H', Nx H' → ∃ m', m' < m ∧ W (i + 1) m' H') ∧ ∀ x H', J.yld i H x H' → g x (wipe σ vs) H' fun σ2 H2 => wipe σ2 vs = wipe σ vs ∧ tt σ2 H2 fun b H3 =>
    if b = true then tk σ2 H3 fun y H4 => tv σ2 H4 fun z H5 => ∃ kvs k, y = kV k ∧ H5 D = some (.dK kvs) ∧ kvs.length < sizeLine ∧ Nx (upd H5 D (.dK (putK kvs k z))) else Nx H3)
theorem e_dc {tg iter kx vx : Expr} {ifs : List Expr} {scope : Scope} (own : List (Str × Nat)) (hN : X.N.Nodup) (ok : BlkOk X.N X.env.scope scope own := by exact blkOk_by (by decide +kernel)) (hc : X.calm = true := by rfl) (hs : ∀ x, foldedSetIterable iter X.env x = pure x := by intro _; rfl)
    (h : WI X tg iter σ H fun J H1 => ∀ D, H1 D = none → tDcR J (GBlk X scope tg) (TBlk X scope ifs) (EBlk X scope kx) (EBlk X scope vx) (own.map (·.2)) σ H1 D (Q (.ref D))) : WE X (.DictComp kx vx [⟨tg, iter, ifs, 0⟩] scope pos) σ H Q :=
  ⟨_, pe_dc hc hN WI.pi ok blk_g blk_t blk_e blk_e hs, h⟩
theorem e_slT {lo hi : Option Expr} (h : WE X a σ H fun x H1 => WO X lo σ H1 fun i H2 => WO X hi σ H2 fun j H3 => rSlT X.K x i j H3 Q) : WE X (.Subscript a (.Slice lo hi none p2) pos) σ H Q := ⟨_, pe_slice sl_tup WE.pe WO.po WO.po, h⟩
/-- over a walk, the new dict at D -/
theorem dc_it {J : It} {n : Nat} {G : Hp → Prop} {Y : Nat → Hp → V → Hp → Prop} {H1 : Hp} {g : TG} {tt : TT} {tk tv : TE} {vs : List Nat} {D : Addr} {Qd : Hp → Prop} (w : Walk J n G Y) (Pv : Nat → Hp → Prop) (h0 : Pv 0 (upd H1 D (.dK []))) (hG : ∀ i H, i ≤ n → Pv i H → G H)
    (hs : ∀ i x H H', i < n → Pv i H → Y i H x H' → g x (wipe σ vs) H' fun σ2 H2 => wipe σ2 vs = wipe σ vs ∧ tt σ2 H2 fun b H3 =>
      if b = true then tk σ2 H3 fun y H4 => tv σ2 H4 fun z H5 => ∃ kvs k, y = kV k ∧ H5 D = some (.dK kvs) ∧ kvs.length < sizeLine ∧ Pv (i + 1) (upd H5 D (.dK (putK kvs k z))) else Pv (i + 1) H3) (hd : ∀ H, Pv n H → Qd H) : tDcR J g tt tk tv vs σ H1 D Qd := by
  refine ⟨fun i m H => m = n - i ∧ i ≤ n ∧ Pv i H, ⟨n, by simp, Nat.zero_le _, h0⟩, ?_⟩
  rintro i m H ⟨rfl, hi, p⟩
  have q := hG i H hi p
  by_cases hlt : i < n
  · exact .inr ⟨w.goes i H hlt q, Pv (i + 1), fun H' p' => ⟨n - (i + 1), by omega, rfl, hlt, p'⟩, fun x H' y => hs i x H H' hlt p (w.yields i H x H' hlt q y)⟩
  · have e : i = n := by omega
    subst e
    exact .inl ⟨w.stops H q, hd H p⟩
end
end Lw
namespace Lw
open PySem PySem.Spec L2 Evl
/-! ### small things -/
theorem Das.put {α : Type} [DecidableEq α] [Dat α] {K : PySem.W.Frag} {B : Hp} {v : V} {x : α} : ∀ {vs : List V} {xs : List α} (i : Nat), Das K B vs xs → Dt K B v x → Das K B (vs.set i v) (xs.set i x)
  | [], [], _, h, _ => h
  | [], _ :: _, _, h, _ => by cases h
  | _ :: _, [], _, h, _ => by cases h
  | _ :: vs, _ :: xs, 0, h, d => by
    cases h with
    | cons a b => exact .cons d b
  | _ :: vs, _ :: xs, i + 1, h, d => by
    cases h with
    | cons a b => exact .cons a (Das.put i (show Das K B vs xs from b) d)
theorem Das.bools {K : PySem.W.Frag} {B : Hp} : ∀ {vs : List V} {bs : List Bool}, Das K B vs bs → vs = bs.map V.bl
  | [], [], _ => rfl
  | [], _ :: _, h => by cases h
  | _ :: _, [], h => by cases h
  | v :: vs, b :: bs, h => by
    cases h with
    | cons h hs => rw [List.map_cons, dt_bl (show Dt K B v b from h), Das.bools (show Das K B vs bs from hs)]
theorem Das.upto {α : Type} [DecidableEq α] [Dat α] {K : PySem.W.Frag} {B : Hp} : ∀ {vs : List V} {xs : List α} (n : Nat), Das K B vs xs → Das K B (vs.take n) (xs.take n)
  | _, _, 0, _ => by rw [List.take_zero, List.take_zero]; exact Das.nil
  | [], [], _ + 1, h => h
  | [], _ :: _, _, h => by cases h
  | _ :: _, [], _, h => by cases h
  | _ :: vs, _ :: xs, n + 1, h => by
    cases h with
    | cons a b => exact .cons a (Das.upto n (show Das K B vs xs from b))
theorem ixN_pos {n : Nat} {i : Int} (h0 : 0 ≤ i) (h1 : i < n) : ixN n i = some i.toNat := by
  unfold ixN
  rw [if_pos h0, if_pos h1]
theorem take_next {α : Type} {xs : List α} {i : Nat} {a : α} (h : xs[i]? = some a) : xs.take (i + 1) = xs.take i ++ [a] := by
  rw [List.take_add_one, h]
  rfl
theorem fmap_congr {α β : Type} {f g : α → Option β} : ∀ {l : List α}, (∀ a ∈ l, f a = g a) → l.filterMap f = l.filterMap g
  | [], _ => rfl
  | a :: l, h => by
    rw [List.filterMap_cons, List.filterMap_cons, h a List.mem_cons_self, fmap_congr fun b hb => h b (List.mem_cons_of_mem _ hb)]
theorem flat_ints : ∀ ns : List Int, (ns.map V.int).all flatV = true
  | [] => rfl
  | n :: ns => by rw [List.map_cons, List.all_cons, flat_ints ns]; rfl
theorem in_ints (y : Int) : ∀ ns : List Int, inV (.int y) (ns.map V.int) = decide (y ∈ ns) := by
  intro ns
  have hq : ∀ n : Int, eqV (.int n) (.int y) = decide (n = y) := fun n => by
    show (n == y) = _
    exact beq_dec n y
  rw [Bool.eq_iff_iff, decide_eq_true_eq]
  unfold inV
  rw [List.any_eq_true]
  constructor
  · rintro ⟨v, hv, e⟩
    obtain ⟨n, hn, rfl⟩ := List.mem_map.mp hv
    rw [hq, decide_eq_true_eq] at e
    rw [← e]
    exact hn
  · intro h
    exact ⟨.int y, List.mem_map.mpr ⟨y, h, rfl⟩, by rw [hq]; exact decide_eq_true rfl⟩
theorem walk_from {a n : Nat} : Walk (Itr (a : Nat) n) n (fun _ => True) (fun i H x H' => H' = H ∧ x = .int ((a + i : Nat) : Int)) :=
  (walk_range (lo := (a : Nat))).mono (fun _ h => h) fun i H x H' _ _ y => ⟨y.1, by rw [y.2]; show V.int ((a : Nat) + (i : Nat)) = _; rw [Int.natCast_add]⟩
/-! ### sorted, uniquely -/
def SrtI (ys ks : List Int) : Prop := ys.Perm ks ∧ ys.Pairwise (· ≤ ·)
theorem srtI_uniq {xs ys ks : List Int} (h1 : SrtI xs ks) (h2 : SrtI ys ks) : xs = ys := by
  have hp : xs.Perm ys := h1.1.trans h2.1.symm
  exact go xs ys hp h1.2 h2.2
where
  go : ∀ xs ys : List Int, xs.Perm ys → xs.Pairwise (· ≤ ·) → ys.Pairwise (· ≤ ·) → xs = ys
    | [], ys, h, _, _ => (List.nil_perm.mp h).symm
    | x :: xs, [], h, _, _ => absurd h.symm (by simp)
    | x :: xs, y :: ys, h, h1, h2 => by
      obtain ⟨a1, a2⟩ := List.pairwise_cons.mp h1
      obtain ⟨b1, b2⟩ := List.pairwise_cons.mp h2
      have e : x = y := by
        have m1 : x ∈ y :: ys := h.mem_iff.mp List.mem_cons_self
        have m2 : y ∈ x :: xs := h.mem_iff.mpr List.mem_cons_self
        rcases List.mem_cons.mp m1 with e | e
        · exact e
        · rcases List.mem_cons.mp m2 with e' | e'
          · exact e'.symm
          · have := a1 _ e'; have := b1 _ e; omega
      subst e
      rw [go xs ys (List.Perm.cons_inv h) a2 b2]
/-! ### the least and the greatest -/
def lmin (d : Int) : List Int → Int
  | [] => d
  | c :: cs => cs.foldl min c
def lmax (d : Int) : List Int → Int
  | [] => d
  | c :: cs => cs.foldl max c
theorem fold_min : ∀ (cs : List Int) (c : Int), (cs.foldl min c = c ∨ cs.foldl min c ∈ cs) ∧ cs.foldl min c ≤ c ∧ ∀ y ∈ cs, cs.foldl min c ≤ y
  | [], c => ⟨.inl rfl, Int.le_refl _, fun y h => nomatch h⟩
  | d :: cs, c => by
    obtain ⟨h1, h2, h3⟩ := fold_min cs (min c d)
    rw [List.foldl_cons]
    refine ⟨?_, by omega, fun y hy => ?_⟩
    · rcases h1 with h | h
      · rw [h]
        rcases Int.le_total c d with e | e
        · left; omega
        · right; rw [Int.min_eq_right e]; exact List.mem_cons_self
      · exact .inr (List.mem_cons_of_mem _ h)
    · rcases List.mem_cons.mp hy with rfl | hy
      · omega
      · exact h3 y hy
theorem fold_max : ∀ (cs : List Int) (c : Int), (cs.foldl max c = c ∨ cs.foldl max c ∈ cs) ∧ c ≤ cs.foldl max c ∧ ∀ y ∈ cs, y ≤ cs.foldl max c
  | [], c => ⟨.inl rfl, Int.le_refl _, fun y h => nomatch h⟩
  | d :: cs, c => by
    obtain ⟨h1, h2, h3⟩ := fold_max cs (max c d)
    rw [List.foldl_cons]
    refine ⟨?_, by omega, fun y hy => ?_⟩
    · rcases h1 with h | h
      · rw [h]
        rcases Int.le_total c d with e | e
        · right; rw [Int.max_eq_right e]; exact List.mem_cons_self
        · left; omega
      · exact .inr (List.mem_cons_of_mem _ h)
    · rcases List.mem_cons.mp hy with rfl | hy
      · omega
      · exact h3 y hy
theorem lmin_is {d m : Int} {cs : List Int} (h1 : m ∈ cs) (h2 : ∀ y ∈ cs, m ≤ y) : m = lmin d cs := by
  cases cs with
  | nil => cases h1
  | cons c cs =>
    obtain ⟨k1, k2, k3⟩ := fold_min cs c
    show m = cs.foldl min c
    have a : m ≤ cs.foldl min c := by
      rcases k1 with h | h
      · rw [h]; exact h2 c List.mem_cons_self
      · exact h2 _ (List.mem_cons_of_mem _ h)
    have b : cs.foldl min c ≤ m := by
      rcases List.mem_cons.mp h1 with rfl | h
      · exact k2
      · exact k3 m h
    omega
theorem lmax_is {d m : Int} {cs : List Int} (h1 : m ∈ cs) (h2 : ∀ y ∈ cs, y ≤ m) : m = lmax d cs := by
  cases cs with
  | nil => cases h1
  | cons c cs =>
    obtain ⟨k1, k2, k3⟩ := fold_max cs c
    show m = cs.foldl max c
    have a : cs.foldl max c ≤ m := by
      rcases k1 with h | h
      · rw [h]; exact h2 c List.mem_cons_self
      · exact h2 _ (List.mem_cons_of_mem _ h)
    have b : m ≤ cs.foldl max c := by
      rcases List.mem_cons.mp h1 with rfl | h
      · exact k2
      · exact k3 m h
    omega
section
variable {X : Cx} {σ : L2.St} {H : Hp} {Q : VK} {a e : Expr} {p p2 p3 q pos : Pos}
/-- len(set(xs)) of different ints -/
theorem e_lenSet (hm : X.mg "len" = none) (hm2 : X.mg "set" = none) (hg : Gl X "len" := by rfl) (hg2 : Gl X "set" := by rfl) (hc : X.calm = true := by rfl) (na : starEach [a] X.env = (false, eval a X.env) :: starEach [] X.env := by rfl)
    (h : WE X a σ H fun x H1 => ∃ (l : Addr) (ns : List Int), x = .ref l ∧ SqL X.K H1 l (ns.map V.int) ∧ ns.Nodup ∧ ns.length ≤ 4000 ∧ Q (.int (ns.length : Nat)) H1) : WE X (.Call (.Name "len" p) [.Call (.Name "set" p2) [a] [] q] [] pos) σ H Q := ⟨_, RZ.pe_lenSetI hg hm hg2 hm2 WE.pe hc na, h⟩
end
end Lw
/-! Defs that may raise, own errors, try; great powers; zip of tuples; op= of names. -/
namespace Lw
open PySem PySem.Spec L2 Evl

/-! ### great powers -/
def CPowW (i j : Int) : Prop := 0 ≤ j ∧ (Builtin.Int.intBits i : Int) * j ≤ 2 ^ 27
section
variable {X : Cx} {σ : L2.St} {H : Hp} {Q : VK} {a b e : Expr} {pos p2 : Pos}
theorem op_powW : OpR X (binaryOp .Pow) (rI CPowW fun i j => .int (i ^ j.toNat)) := opI fun _ _ _ _ _ _ _ hc q => PyProof.Rows.pow_int hc.1 hc.2 q
theorem e_powW (h : WE X a σ H fun x H1 => WE X b σ H1 fun y H2 => ∃ i j, x = .int i ∧ y = .int j ∧ CPowW i j ∧ Q (.int (i ^ j.toNat)) H2) : WE X (.BinOp a .Pow b pos) σ H Q := e_bin op_powW h
end
theorem bits_le {i : Int} {n : Nat} (h : i.natAbs < 2 ^ n) : Builtin.Int.intBits i ≤ n := by
  unfold Builtin.Int.intBits
  split
  · omega
  · rename_i h0
    have h0' : i.natAbs ≠ 0 := by
      intro z
      apply h0
      rw [beq_iff_eq]
      omega
    have := (Nat.log2_lt h0').mpr h
    omega
theorem powW_of {i j : Int} {n : Nat} (h : i.natAbs < 2 ^ n) (h0 : 0 ≤ j) (h1 : (n : Int) * j ≤ 2 ^ 27) : CPowW i j := by
  refine ⟨h0, Int.le_trans (Int.mul_le_mul_of_nonneg_right ?_ h0) h1⟩
  exact_mod_cast bits_le h

/-! ### calls of defs that may raise -/
structure CalX (P : Program) (w : World) (K : PySem.W.Frag) (mg : Str → Option Value) (base : Heap) (x : Str) (k : Nat) (ps : List Str) (sp : Sp) : Prop where
  ex : ∃ f fd, FnOk P w K mg base (L2.CX P w) k f fd ps sp ∧ mg x = some (.ref f) ∧ PySem.W.keepIn K (.ref f) = true ∧ Binds K fd ps []
structure CalKX (P : Program) (w : World) (K : PySem.W.Frag) (mg : Str → Option Value) (base : Heap) (x : Str) (k : Nat) (ps ks : List Str) (gV : List V → List V) (sp : Sp) : Prop where
  ex : ∃ f fd g, FnOk P w K mg base (L2.CX P w) k f fd ps sp ∧ mg x = some (.ref f) ∧ PySem.W.keepIn K (.ref f) = true ∧ KBn K fd ps 0 ks g (fun _ zs => gV zs)
section
variable {X : Cx} {σ : L2.St} {H : Hp} {Q : VK} {a b c e o : Expr} {pos p2 apos : Pos} {x m : Str} {v : V} {es : List Expr} {k : Nat} {ps ks : List Str} {sp : Sp} {gV : List V → List V} {W : WX}
theorem e_callX (cl : CalX X.prog X.w X.K X.mg X.base x k ps sp) (tk : Takes X W) (hr : Room k X.A) (hg : Gl X x := by rfl) (hdb : (x == ("__debug__" : Str)) = false := by decide) (he : starEach (e :: es) X.env = (false, eval e X.env) :: starEach es X.env := by rfl) (hpl : (backTo pos (starEach es X.env)).any (·.1) = false := by rfl)
    (h : WA X (e :: es) σ H fun vs H1 => sp vs H1 Q (fun cls d H' => W cls d σ H')) : WE X (.Call (.Name x p2) (e :: es) [] pos) σ H Q := by
  obtain ⟨f, fd, F, hm, hk, hb⟩ := cl.ex
  exact ⟨_, pe_callS (E := L2.WE W) F hr hg hm hk hb (fun σ => passAt tk σ) WA.pa hdb he hpl, h⟩
theorem pe_callN1 {CX : CXT} {f : Addr} {fd : FuncData} {E : XK} {kws : List Keyword} {tk : TA} {g : List Value → List Value → List Value} {gW : List V → List V → List V} (F : FnOk X.prog X.w X.K X.mg X.base CX k f fd ps sp) (hr : Room k X.A) (hg : Gl X x) (hm : X.mg x = some (.ref f)) (hk : PySem.W.keepIn X.K (.ref f) = true) (hb : KBn X.K fd ps 0 ks g gW) (hx : Passes CX X E)
    (hkw : PK X kws tk) (hall : (backToKw pos (keywordEach kws X.env)).all (·.1.isSome) = true := by rfl) (hks : (backToKw pos (keywordEach kws X.env)).filterMap (·.1) = ks := by rfl)
    (hdb : (x == ("__debug__" : Str)) = false := by decide)
    (hpl : ((backTo pos (starEach [] X.env)).any (·.1) || (backToKw pos (keywordEach kws X.env)).any (·.1.isNone)) = false := by rfl) :
    PE X (.Call (.Name x p2) [] kws pos) (tCallN 0 ks.length sp gW E tNil tk) := pe_callN0 F hr hg hm hk hb hx hkw hall hks hdb hpl
/-- by keywords alone, where it raises nothing -/
theorem e_callKX {kws : List Keyword} (cl : CalKX X.prog X.w X.K X.mg X.base x k ps ks gV sp) (hr : Room k X.A) (hg : Gl X x := by rfl) (hdb : (x == ("__debug__" : Str)) = false := by decide)
    (hall : (backToKw pos (keywordEach kws X.env)).all (·.1.isSome) = true := by rfl) (hks : (backToKw pos (keywordEach kws X.env)).filterMap (·.1) = ks := by rfl)
    (hpl : ((backTo pos (starEach [] X.env)).any (·.1) || (backToKw pos (keywordEach kws X.env)).any (·.1.isNone)) = false := by rfl)
    (h : WK X kws σ H fun zs H1 => ([] : List V).length = 0 ∧ zs.length = ks.length ∧ sp (gV zs) H1 Q E0) : WE X (.Call (.Name x p2) [] kws pos) σ H Q := by
  obtain ⟨f, fd, g, F, hm, hk, hb⟩ := cl.ex
  exact ⟨_, pe_callN0 F hr hg hm hk hb passL WK.pk hall hks hdb hpl, h⟩
end

/-! ### own error classes over ValueError with one attribute -/
/-- __init__: self.value = value -/
def sp_wi (K : PySem.W.Frag) : Sp := fun vs H Q _ => ∃ (a C : Addr) (v : V), vs = [.ref a, v] ∧ OexC K C ∧ PySem.W.findIn K (.ref C) "value" = some none ∧ H a = some (exo a C none) ∧
  ∀ dx, H dx = none → dx ≠ a → Q .non (upd (upd H dx (exd dx [(("value" : Str), v)])) a (exo a C (some dx)))
structure ExC (P : Program) (w : World) (K : PySem.W.Frag) (mg : Str → Option Value) (base : Heap) (x : Str) (C : Addr) : Prop where
  gC : mg x = some (.ref C)
  ox : OexC K C
  xf : XfC K C
  nv : PySem.W.findIn K (.ref C) "value" = some none
  te : PySem.W.exmOne K (.ref C) (.ref C) = some true
  ini : ∃ fI fd, FnOk P w K mg base CX0 1 fI fd ["self", "value"] (sp_wi K) ∧ PySem.W.findIn K (.ref C) "__init__" = some (some (.ref fI)) ∧ PySem.W.typeIn K (.ref fI) = some (.type "function") ∧ Binds K fd ["self", "value"] []
/-- an error's dict -/
abbrev xv (v : V) : HO := .xd [(("value" : Str), v)]
theorem WE.mono {X : Cx} {σ : L2.St} {H : Hp} {Q Q' : VK} {e : Expr} (h : WE X e σ H Q) (hq : ∀ v H, Q v H → Q' v H) : WE X e σ H Q' :=
  ⟨fun σ H Q' => ∃ Q, WE X e σ H Q ∧ ∀ v H, Q v H → Q' v H, ⟨fun pins s σ H Q' I h' => by
    obtain ⟨Q, h1, h2⟩ := h'
    exact thn (WE.pe.run pins s σ H Q I h1) fun u s1 ⟨v, H1, I1, r, q⟩ => ⟨v, H1, I1, r, h2 _ _ q⟩⟩, Q, h, hq⟩
theorem WA.up {X : Cx} {es : List Expr} : PA X es (fun σ H Q => ∃ Q0, WA X es σ H Q0 ∧ ∀ vs H, Q0 vs H → Q vs H) := ⟨fun pos pins s σ H Q I h => by
  obtain ⟨Q0, h1, h2⟩ := h
  exact thn (WA.pa.run pos pins s σ H Q0 I h1) fun us s1 ⟨vs, H1, I1, r, q⟩ => ⟨vs, H1, I1, r, h2 _ _ q⟩⟩
section
variable {X : Cx} {σ : L2.St} {H : Hp} {Q : VK} {D : Ends} {a b e o : Expr} {p p' pos pos2 : Pos} {x : Str} {C : Addr} {W : WX} {f : Str}
/-- self.f = e of an error that is being made -/
theorem s_ost (hs : swapsWith e (some (.Attribute o f p')) pos.line X.env = pure false := by rfl) (h : tOst X.K f (WE X o) (WE X e) D σ H) : WS X (.Assign [.Attribute o f p'] e pos) D σ H := ⟨_, ps_ost WE.pe WE.pe hs, h⟩
/-- raise X(e) -/
theorem s_raiseO (T : ExC X.prog X.w X.K X.mg X.base x C) (tk : Takes X W) (hr : Room 2 X.A) (hc : X.calm = true := by rfl) (hg : Gl X x := by rfl) (hdb : (x == ("__debug__" : Str)) = false := by decide)
    (he : starEach (e :: []) X.env = (false, eval e X.env) :: starEach [] X.env := by rfl) (hpl : (backTo pos (starEach [] X.env)).any (·.1) = false := by rfl)
    (h : WE X e σ H fun v H1 => ∀ d H', (∀ q u, H1 q = some u → H' q = some u) → (∀ q, H1 q ≠ none → H' q ≠ none) → H1 d = none → H' d = some (xv v) → W (.ref C) (some d) σ H') : WS X (.Raise (some (.Call (.Name x p) [e] [] pos)) none pos2) D σ H := by
  obtain ⟨fI, fd, F, hi, ht, hb⟩ := T.ini
  refine ⟨_, ps_raise hc tk (pmk_oex (es := []) (dvs := []) (ds := []) T.ox hi ht F hr hb .nil pass0 hg T.gC WA.pa hdb he hpl), ?_⟩
  refine a_cons he (h := WE.mono h fun v H1 hv => a_nil ?_)
  refine ⟨(by decide : 1 ≤ 1000), fun a ha => ⟨a, C, v, rfl, T.ox, T.nv, upd_same, fun dx h1 h2 => ⟨rfl, dx, [(("value" : Str), v)], upd_same, ?_, upd_none h1, ?_⟩⟩⟩
  · rw [upd_ne h2, upd_same]
  · have hd1 : H1 dx = none := upd_none h1
    have key : ∀ q u, H1 q = some u → upd (del (upd (upd (upd H1 a (exo a C none)) dx (exd dx [(("value" : Str), v)])) a (exo a C (some dx))) a) dx (xv v) q = some u := fun q u hq => by
      have n1 : q ≠ a := ne_of_none hq ha
      have n2 : q ≠ dx := ne_of_none hq hd1
      rw [upd_ne n2, del_ne n1, upd_ne n1, upd_ne n2, upd_ne n1]
      exact hq
    refine hv dx _ key (fun q hq => ?_) hd1 upd_same
    cases e' : H1 q with
    | none => exact absurd e' hq
    | some u =>
      rw [key q u e']
      exact fun z => nomatch z
/-- err.f in an except suite -/
theorem e_xf {a : Addr} {oe : Obj} {cls : Value} {d : Option Addr} {pn : List (Addr × Obj)} (T : XfC X.K C) (hno : PySem.W.findIn X.K (.ref C) f = some none) (hz : Zc cls d oe) (hf : ∃ vs, oe.data = .fields vs)
    (hb : attributeBase e f X.env (eval e X.env) = eval e X.env := by rfl) (h : WE (X.suite a ((a, oe) :: pn)) e σ H fun y H1 => y = .ref a ∧ cls = .ref C ∧ ∃ (dd : Addr) (fs : List (Str × V)) (v : V), d = some dd ∧ H1 dd = some (.xd fs) ∧ fs.lookup f = some v ∧ Q v H1) :
    WE (X.suite a ((a, oe) :: pn)) (.Attribute e f pos) σ H Q := ⟨_, pe_xf T hno hz hf WE.pe hb, h⟩
/-- the ends of an except suite whose error has the name in slot i -/
abbrev wipedAt (i : Nat) (D : Ends) : Ends := { nx := fun σ' H' => D.nx (σ'.set i none) H', rt := D.rt, bk := fun σ' H' => D.bk (σ'.set i none) H', ct := fun σ' H' => D.ct (σ'.set i none) H' }
/-- try: body / except x as n: suite -/
theorem s_tryAs (i : Nat) {n : Str} {np : Pos} {body suite : List Stmt} {b₀ : Stmt} {c : Addr} (hN : X.N.Nodup) (hm : X.mg x = some (.ref c)) (hs : X.stack = X.env :: X.outer := by rfl) (hf : X.env.frame = some X.env.locals := by rfl) (hi : X.N[i]? = some n := by rfl) (hln : X.env.kindOf n = some .local := by rfl)
    (hg : Gl X x := by rfl) (hdb : (x == ("__debug__" : Str)) = false := by decide)
    (h : ∀ (W : WX) (pn : List (Addr × Obj)) (xe : Value → Shared → Prop), Takes (X.tr pn xe) W → PassesOwn (model X.prog X.w) X.A X.env xe →
      (∀ (C dd : Addr) (σ' : L2.St) (H' : Hp), PySem.W.exmOne X.K (.ref C) (.ref c) = some true →
        (∀ (a : Addr) (oe : Obj) (pn : List (Addr × Obj)), Zc (.ref C) (some dd) oe → (∃ vs, oe.data = .fields vs) → H' a = none → WSs (X.suite a ((a, oe) :: pn)) (b₀ :: suite) (wipedAt i D) (σ'.set i (some (.ref a))) H') → W (.ref C) (some dd) σ' H') →
      WSs (X.tr pn xe) body D σ H) : WS X (.Try body [.ExceptHandler (some (.Name x np)) (some n) (b₀ :: suite) p'] [] [] pos) D σ H := by
  refine ⟨_, ps_try_as (i := i) (tb := fun W D σ H => ∀ pn xe, Takes (X.tr pn xe) W → PassesOwn (model X.prog X.w) X.A X.env xe → WSs (X.tr pn xe) body D σ H)
    (ts := fun a cls d D' σ' H' => ∀ (oe : Obj) (pn : List (Addr × Obj)), Zc cls d oe → (∃ vs, oe.data = .fields vs) → WSs (X.suite a ((a, oe) :: pn)) (b₀ :: suite) D' σ' H') (Wout := fun _ _ _ _ => False) hs hf hN hi hln ⟨hg, hdb, .inl hm⟩ takes0
    (fun W pn xe tk po => ⟨fun pins s σ H D I h => WSs.pss.run pins s σ H D I (h pn xe tk po)⟩) (fun a oe cls d pn hz hf' => ⟨fun pins s σ H D I h => WSs.pss.run pins s σ H D I (h oe pn hz hf')⟩), ?_⟩
  intro pn xe tk po
  exact h _ pn xe tk po fun C dd σ' H' te hsu => ⟨true, te, fun _ a ha oe pn hz hf' => hsu a oe pn hz hf' ha, fun z => nomatch z⟩
/-- n += e, ints -/
theorem s_augAdd (i : Nat) {n : Str} (hN : X.N.Nodup) (hi : X.N[i]? = some n := by rfl) (hx : Loc X.env.scope n := by first | exact Or.inl rfl | exact Or.inr rfl) (hf : X.fn n = true ∨ X.env.scope.names.lookup n = some .local := by first | exact .inl rfl | exact .inr rfl | assumption)
    (h : ∃ v, σ[i]? = some (some v) ∧ WE X e σ H fun y H1 => ∃ a b, v = .int a ∧ y = .int b ∧ D.nx (σ.set i (some (.int (a + b)))) H1) : WS X (.AugAssign (.Name n p') .Add e pos) D σ H := ⟨_, ps_aug hN hi hx WE.pe ip_add hf, h⟩
end

/-! ### zip of tuples -/
section
variable {K : PySem.W.Frag} {a b : Addr} {xs ys : List V}
theorem walk_zipT {n : Nat} (hn : n = min xs.length ys.length) : Walk (RZ.ItzT K a b) n (fun H => SqT K H a xs ∧ SqT K H b ys) (YPair (fun i => xs[i]?) (fun i => ys[i]?)) := by
  subst hn
  refine ⟨fun i _ hi q => ?_, fun _ q => ⟨xs, ys, q.1, q.2, by omega⟩, fun i H v H' _ q y => ?_⟩
  · have h1 : i < xs.length := by omega
    have h2 : i < ys.length := by omega
    exact ⟨xs, ys, xs[i], ys[i], q.1, q.2, by simp [h1], by simp [h2]⟩
  · obtain ⟨T, x, z, h1, h2, h3, h4, h5⟩ := y
    exact ⟨T, x, z, h1, h2, h3, h4 xs q.1, h5 ys q.2⟩
end
theorem i_zipT {X : Cx} {σ : L2.St} {H : Hp} {a b : Expr} {pos p2 : Pos} {R : It → Hp → Prop} {elts : List Expr} {kk : Nat} {tpos : Pos} (hm : X.mg "zip" = none) (hg : Gl X "zip" := by rfl) (hs : starEach [a, b] X.env = (false, eval a X.env) :: starEach [b] X.env := by rfl) (hpl : (backTo pos (starEach [b] X.env)).any (·.1) = false := by rfl)
    (h : WA X [a, b] σ H fun vs H1 => ∃ p q xs ys, vs = [.ref p, .ref q] ∧ SqT X.K H1 p xs ∧ SqT X.K H1 q ys ∧ R (RZ.ItzT X.K p q) H1) : WI X (.Tuple elts kk tpos) (.Call (.Name "zip" p2) [a, b] [] pos) σ H R := by
  exact ⟨_, RZ.pi_zipA hg hm WA.up hs hpl, _, h, fun vs H1 ⟨p, q, xs, ys, e, h1, h2, r⟩ => ⟨p, q, xs, ys, e, .inr ⟨h1, h2, r⟩⟩⟩

/-! ### defs of the text -/
def Fn (K : PySem.W.Frag) (mg : Str → Option Value) (x : Str) (st : Stmt) : Prop := ∃ f fd, Fun K x x st f fd ∧ mg x = some (.ref f)
section
variable {P : Program} {w : World} {K : PySem.W.Frag} {mg : Str → Option Value} {base : Heap} {x : Str} {st : Stmt} {N ps ks : List Str} {k : Nat} {sp : Sp}
abbrev BodyOk (P : Program) (w : World) (K : PySem.W.Frag) (mg : Str → Option Value) (base : Heap) (x : Str) (st : Stmt) (N : List Str) (k : Nat) (sp : Sp) : Prop :=
  ∀ (f : Addr) (cdv : Value) (A : Around) (outer : List Env) (s : Shared) (H : Hp) (vs : List V) (Q : VK) (E : XK), Room k (A.deeper (PyProof.Rows.envOfC x (defScope st) s.heap.objs.size f cdv)) → sp vs H Q E →
      WSs (cxOf CX0 P w K mg base N x (defScope st) f cdv A outer s H E).nox (defBody st) { nx := fun _ H' => Q .non H', rt := Q } (start N vs) H
/-- .. of a def that may raise -/
abbrev BodyOkX (P : Program) (w : World) (K : PySem.W.Frag) (mg : Str → Option Value) (base : Heap) (x : Str) (st : Stmt) (N : List Str) (k : Nat) (sp : Sp) : Prop :=
  ∀ (f : Addr) (cdv : Value) (A : Around) (outer : List Env) (s : Shared) (H : Hp) (vs : List V) (Q : VK) (E : XK), Room k (A.deeper (PyProof.Rows.envOfC x (defScope st) s.heap.objs.size f cdv)) → sp vs H Q E →
      Takes (cxOf (L2.CX P w) P w K mg base N x (defScope st) f cdv A outer s H E) (fun cls d _ H => E cls d H) → PassesOwn (model P w) (cxOf (L2.CX P w) P w K mg base N x (defScope st) f cdv A outer s H E).A (cxOf (L2.CX P w) P w K mg base N x (defScope st) f cdv A outer s H E).env (cxOf (L2.CX P w) P w K mg base N x (defScope st) f cdv A outer s H E).xe →
      WSs (cxOf (L2.CX P w) P w K mg base N x (defScope st) f cdv A outer s H E) (defBody st) { nx := fun _ H' => Q .non H', rt := Q } (start N vs) H
theorem ok_of (S : FnScope N ps (defScope st)) (len : ∀ vs H Q E, sp vs H Q E → vs.length = ps.length) (body : BodyOk P w K mg base x st N k sp) : ∀ f fd, Fun K x x st f fd → FnOk P w K mg base CX0 (k + 1) f fd ps sp :=
  fun f fd F => F.ok S len (body f)
theorem okX_of (S : FnScope N ps (defScope st)) (len : ∀ vs H Q E, sp vs H Q E → vs.length = ps.length) (body : BodyOkX P w K mg base x st N k sp) : ∀ f fd, Fun K x x st f fd → FnOk P w K mg base (L2.CX P w) (k + 1) f fd ps sp :=
  fun f fd F => F.okX S len fun cdv A outer s H vs Q E hr hsp => body f cdv A outer s H vs Q E hr hsp (takes_of rfl rfl rfl rfl) (passes_of rfl)
theorem cal_fn (d : Fn K mg x st) (ok : ∀ f fd, Fun K x x st f fd → FnOk P w K mg base CX0 k f fd ps sp)
    (hb : ∀ (kV doc pm : Value) (an : Option Addr) (cdv ct : Value) (us : List Value), us.length = ps.length → bindArgs (PySem.W.fnOf x x (defArgs st) (defBody st) (defScope st) .none kV doc pm an cdv ct) ⟨us, []⟩ = pure (ps.zip us)) : Cal P w K mg base x k ps sp := by
  obtain ⟨f, fd, F, hm⟩ := d
  exact ⟨f, fd, ok f fd F, hm, F.kp, F.binds hb⟩
theorem calX_fn (d : Fn K mg x st) (ok : ∀ f fd, Fun K x x st f fd → FnOk P w K mg base (L2.CX P w) k f fd ps sp)
    (hb : ∀ (kV doc pm : Value) (an : Option Addr) (cdv ct : Value) (us : List Value), us.length = ps.length → bindArgs (PySem.W.fnOf x x (defArgs st) (defBody st) (defScope st) .none kV doc pm an cdv ct) ⟨us, []⟩ = pure (ps.zip us)) : CalX P w K mg base x k ps sp := by
  obtain ⟨f, fd, F, hm⟩ := d
  exact ⟨f, fd, ok f fd F, hm, F.kp, F.binds hb⟩
theorem calK_fn (g : {α : Type} → List α → List α) (d : Fn K mg x st) (ok : ∀ f fd, Fun K x x st f fd → FnOk P w K mg base CX0 k f fd ps sp) (hg : ∀ {vs : List V} {us : List Value}, Vals vs us → Vals (g vs) (g us))
    (hb : ∀ (kV doc pm : Value) (an : Option Addr) (cdv ct : Value) (ws : List Value), ws.length = ks.length → bindArgs (PySem.W.fnOf x x (defArgs st) (defBody st) (defScope st) .none kV doc pm an cdv ct) ⟨[], ks.zip ws⟩ = pure (ps.zip (g ws))) : CalK P w K mg base x k ps ks g sp := by
  obtain ⟨f, fd, F, hm⟩ := d
  refine ⟨f, fd, fun _ ws => g ws, ok f fd F, hm, F.kp, ⟨fun s us ws _ l1 l2 => ?_, fun _ r => hg r⟩⟩
  have e : us = [] := List.length_eq_zero_iff.mp l1
  subst e
  obtain ⟨oc, od, kV, doc, pm, an, cdv, ct, osl, rfl, lk, hcd⟩ := F.ex
  exact BindsTo.of_eq (hb kV doc pm an cdv ct ws l2)
theorem calKX_fn (g : {α : Type} → List α → List α) (d : Fn K mg x st) (ok : ∀ f fd, Fun K x x st f fd → FnOk P w K mg base (L2.CX P w) k f fd ps sp) (hg : ∀ {vs : List V} {us : List Value}, Vals vs us → Vals (g vs) (g us))
    (hb : ∀ (kV doc pm : Value) (an : Option Addr) (cdv ct : Value) (ws : List Value), ws.length = ks.length → bindArgs (PySem.W.fnOf x x (defArgs st) (defBody st) (defScope st) .none kV doc pm an cdv ct) ⟨[], ks.zip ws⟩ = pure (ps.zip (g ws))) : CalKX P w K mg base x k ps ks g sp := by
  obtain ⟨f, fd, F, hm⟩ := d
  refine ⟨f, fd, fun _ ws => g ws, ok f fd F, hm, F.kp, ⟨fun s us ws _ l1 l2 => ?_, fun _ r => hg r⟩⟩
  have e : us = [] := List.length_eq_zero_iff.mp l1
  subst e
  obtain ⟨oc, od, kV, doc, pm, an, cdv, ct, osl, rfl, lk, hcd⟩ := F.ex
  exact BindsTo.of_eq (hb kV doc pm an cdv ct ws l2)
end
end Lw
namespace Lw
open PySem L2 Evl
/-! ### what many defs hand back -/
/-- a new list of such data, the caller's | data that stay -/
def RetL {β : Type} [DecidableEq β] [Dat β] (K : PySem.W.Frag) (B H : Hp) (Q : VK) (ys : List β) : Prop := ∀ D B' H' acc, Gr M0 B H B' H' → B' D = none → H D = none → H' D = some (.lst acc) → Das K B' acc ys → Q (.ref D) H'
def RetD {β : Type} [DecidableEq β] [Dat β] (K : PySem.W.Frag) (B H : Hp) (Q : VK) (y : β) : Prop := ∀ v B' H', Gr M0 B H B' H' → Dt K B' v y → Q v H'
theorem RetD.l {K : PySem.W.Frag} {β : Type} [DecidableEq β] [Dat β] {B H : Hp} {Q : VK} {ys : List β} (h : RetD K B H Q ys) : RetL K B H Q ys := fun D B' H' acc g b h0 e d =>
  h (.ref D) (upd B' D (.lst acc)) H' (g.learn h0 b e) (dtL (SqL.of upd_same) (d.mono (Ex.new b)))
/-- an error with a number, raised when all that was tracked stands as it was -/
def Rai (C : Addr) (H : Hp) (E : XK) (n : Int) : Prop := ∀ d H', Ex H H' → H d = none → H' d = some (xv (.int n)) → E (.ref C) (some d) H'
theorem Rai.up {C : Addr} {H H1 : Hp} {E : XK} {n : Int} (h : Rai C H E n) (e : Ex H H1) : Rai C H1 E n := fun d H' e' hd hx => h d H' (e.trans e') (fresh_back e hd) hx
theorem gr_ex {B H H' : Hp} (k : Ex B H) (e : Ex H H') : Gr M0 B H B H' := by
  refine ⟨.refl B, k.trans e, fun a o _ h => e a o h, fun a h => ?_, fun a h _ => h⟩
  cases q : H a with
  | none => exact absurd q h
  | some u => rw [e a u q]; exact fun z => nomatch z
/-! ### pairs of ints -/
abbrev I2 := Int × Int
section
variable {K : PySem.W.Frag} {B : Hp} {v : V}
theorem dt_i2 {p : I2} (h : Dt K B v p) : ∃ a, v = .ref a ∧ SqT K B a [.int p.1, .int p.2] := by
  obtain ⟨a, y, z, e, hT, d1, d2⟩ := dt_pair h
  cases dt_int d1
  cases dt_int d2
  exact ⟨a, e, hT⟩
theorem dtI2 {a : Addr} {x y : Int} (h : SqT K B a [.int x, .int y]) : Dt K B (.ref a) ((x, y) : I2) := dtP h (dtI x) (dtI y)
end
/-! ### Python's max, min, abs -/
theorem py_max (i j : Int) : (if j > i then j else i) = max i j := by split <;> omega
theorem py_min (i j : Int) : (if j < i then j else i) = min i j := by split <;> omega
theorem py_abs (i : Int) : (if i < 0 then -i else i) = (i.natAbs : Int) := by split <;> omega
theorem sq_int {n : Nat} {i : Int} (h : i.natAbs < n) (m : Nat) (hm : n ≤ m) : i.natAbs < m := Nat.lt_of_lt_of_le h hm
/-! ### isinstance of what is read -/
theorem tyx_t {K : PySem.W.Frag} {H : Hp} {a : Addr} {xs : List V} (h : SqT K H a xs) : TyX K H (.ref a) (.type "tuple") := by
  rcases h with (h | ⟨o, h⟩) | ⟨o, its, n, h1, h2, _⟩
  · exact .base (.tup h)
  · exact .fTuple h
  · exact .kTuple h1 h2
theorem tyx_l {K : PySem.W.Frag} {H : Hp} {a : Addr} {xs : List V} (h : SqL K H a xs) : TyX K H (.ref a) (.type "list") := by
  rcases h with (h | ⟨o, h⟩) | ⟨o, its, n, h1, h2, _⟩
  · exact .base (.lst h)
  · exact .base (.frz h)
  · exact .kList h1 h2
/-- len(range(i, j)) -/
theorem call_lenRng {X : Cx} : CallR X (.builtin "len") (fun xs H Q => ∃ (p : Addr) (i j : Int), xs = [.ref p] ∧ H p = some (.rng i j) ∧ j - i < 2 ^ 62 ∧ Q (.int ((j - i).toNat : Nat)) H) := by
  intro pins s σ H xs us Q I r h
  obtain ⟨p, i, j, rfl, hp, hl, q⟩ := h
  obtain ⟨u1, rfl, r1⟩ := vals1 r
  cases (show u1 = Value.ref p from r1)
  have hx : ObjOk X.prog X.w H s.heap p (.rng i j) := I.hok p _ hp
  obtain ⟨t, u, v, e⟩ := hx
  exact call_len_range e (PyProof.Rows.rangeSize_nat i j) (by omega) ⟨.int _, H, I.tok _, ⟨_, rfl⟩, q⟩
theorem bnm_range : bootBuiltins "range" = some (.type "range") := by decide +kernel
theorem bnm_list : bootBuiltins "list" = some (.type "list") := by decide +kernel
theorem bnm_tuple : bootBuiltins "tuple" = some (.type "tuple") := by decide +kernel
theorem bnm_bool : bootBuiltins "bool" = some (.type "bool") := by decide +kernel
theorem bnm_int : bootBuiltins "int" = some (.type "int") := by decide +kernel
theorem fm_map {α β : Type} (f : α → β) : ∀ l : List α, l.filterMap (fun a => some (f a)) = l.map f
  | [] => rfl
  | a :: l => by rw [List.filterMap_cons, fm_map f l]; rfl
end Lw
namespace Lw
open PySem L2 Evl
/-! ### what the top leaves -/
theorem fn_mk {K : PySem.W.Frag} {mg : Str → Option Value} {x : Str} {st : Stmt} {f : Addr} {h : Heap} {oc : Value} {od an : Option Addr} {osl : Array (Option Value)} {kV doc pm cdv ct : Value} (X : K.In h) (G : h.Ns mainGlobals mg) (a : PySem.W.nsIn K mainGlobals x = some (some (.ref f)))
    (l : K.lookup f = some ⟨oc, od, .func (PySem.W.fnOf x x (defArgs st) (defBody st) (defScope st) .none kV doc pm an cdv ct), osl⟩) (c : PySem.W.codeIn K cdv x = true) (k : PySem.W.keepIn K (.ref f) = true) : Fn K mg x st := ⟨f, _, fun_mk l c k, PySem.W.mg_of X G a⟩
def FnK (K : PySem.W.Frag) (x : Str) (st : Stmt) : Prop := ∃ (f : Addr) (oc : Value) (od an : Option Addr) (osl : Array (Option Value)) (kV doc pm cdv ct : Value), PySem.W.nsIn K mainGlobals x = some (some (.ref f)) ∧
  K.lookup f = some ⟨oc, od, .func (PySem.W.fnOf x x (defArgs st) (defBody st) (defScope st) .none kV doc pm an cdv ct), osl⟩ ∧ PySem.W.codeIn K cdv x = true ∧ PySem.W.keepIn K (.ref f) = true
theorem fnK_mk {K : PySem.W.Frag} {x : Str} {st : Stmt} {f : Addr} {oc : Value} {od an : Option Addr} {osl : Array (Option Value)} {kV doc pm cdv ct : Value} (a : PySem.W.nsIn K mainGlobals x = some (some (.ref f)))
    (l : K.lookup f = some ⟨oc, od, .func (PySem.W.fnOf x x (defArgs st) (defBody st) (defScope st) .none kV doc pm an cdv ct), osl⟩) (c : PySem.W.codeIn K cdv x = true) (k : PySem.W.keepIn K (.ref f) = true) : FnK K x st := ⟨f, oc, od, an, osl, kV, doc, pm, cdv, ct, a, l, c, k⟩
theorem FnK.fn {K : PySem.W.Frag} {mg : Str → Option Value} {h : Heap} {x : Str} {st : Stmt} (F : FnK K x st) (X : K.In h) (G : h.Ns mainGlobals mg) : Fn K mg x st := by
  obtain ⟨f, oc, od, an, osl, kV, doc, pm, cdv, ct, a, l, c, k⟩ := F
  exact fn_mk X G a l c k
/-! ### error classes as the top leaves them -/
/-- what except says of an error's class and the clause's -/
theorem exm_by {K : PySem.W.Frag} {S T : Addr} {b : Bool} (h1 : PySem.W.subIn K (.ref T) (.type "BaseException") = some true) (h2 : PySem.W.isClsIn K T = true) (h3 : PySem.W.typeIn K (.ref T) = some (.type "type")) (h4 : PySem.W.subIn K (.ref S) (.ref T) = some b) : PySem.W.exmOne K (.ref S) (.ref T) = some b := by
  unfold PySem.W.isClsIn at h2
  unfold PySem.W.exmOne PySem.W.kitCls
  simp only [h1, h2, h3, h4, beq_self_eq_true, Bool.and_self, if_true]
/-- the class x stands at C; its __init__ is the def st -/
structure ErrK (K : PySem.W.Frag) (x : Str) (st : Stmt) (C : Addr) : Prop where
  gC : PySem.W.nsIn K mainGlobals x = some (some (.ref C))
  ox : OexC K C
  xf : XfC K C
  nv : PySem.W.findIn K (.ref C) "value" = some none
  te : PySem.W.exmOne K (.ref C) (.ref C) = some true
  ini : ∃ fI fd, Fun K "__init__" "WindowError.__init__" st fI fd ∧ PySem.W.findIn K (.ref C) "__init__" = some (some (.ref fI)) ∧ PySem.W.typeIn K (.ref fI) = some (.type "function")
theorem errK_mk {K : PySem.W.Frag} {x : Str} {st : Stmt} {C f : Addr} {nm q : Str} {N : Addr} {bs : List Value} {rs : List Value} {sn : List Str} {sub : List Value} {ab : Bool} {col : Option Bool} {dd : Option Addr} {m0 m1 m2 m3 m5 : Option Value}
    {oc : Value} {od an : Option Addr} {osl : Array (Option Value)} {kV doc pm cdv ct : Value} (gC : PySem.W.nsIn K mainGlobals x = some (some (.ref C)))
    (cl : K.lookup C = some (excClassObj nm q C N bs rs true sn sub ab col dd m0 m1 m2 m3 m5 "ValueError.__new__")) (rv : PySem.HandSPX.refsVE rs = true)
    (sa : PySem.W.findIn K (.ref C) "__setattr__" = some (some (.builtin "object.__setattr__"))) (ex : PySem.W.subIn K (.ref C) (.type "BaseException") = some true) (ty : PySem.W.typeIn K (.ref C) = some (.type "type")) (kC : PySem.W.keepIn K (.ref C) = true)
    (ga : PySem.W.findIn K (.ref C) "__getattribute__" = some (some (.builtin "BaseException.__getattribute__"))) (gg : PySem.W.findIn K (.ref C) "__getattr__" = some none) (hd : PySem.W.hasDictIn K C = true) (nv : PySem.W.findIn K (.ref C) "value" = some none)
    (ic : PySem.W.isClsIn K C = true) (ss : PySem.W.subIn K (.ref C) (.ref C) = some true) (ii : PySem.W.findIn K (.ref C) "__init__" = some (some (.ref f))) (it : PySem.W.typeIn K (.ref f) = some (.type "function"))
    (l : K.lookup f = some ⟨oc, od, .func (PySem.W.fnOf "__init__" "WindowError.__init__" (defArgs st) (defBody st) (defScope st) .none kV doc pm an cdv ct), osl⟩) (c : PySem.W.codeIn K cdv "WindowError.__init__" = true) (k : PySem.W.keepIn K (.ref f) = true) : ErrK K x st C := by
  exact ⟨gC, ⟨⟨nm, q, N, bs, rs, sn, sub, ab, col, dd, m0, m1, m2, m3, m5, cl, rv⟩, sa, ex, ty, kC⟩, ⟨ga, gg, ex, hd⟩, nv, exm_by ex ic ty ss, f, _, fun_mk l c k, ii, it⟩
structure ErrM (K : PySem.W.Frag) (mg : Str → Option Value) (x : Str) (st : Stmt) (C : Addr) : Prop where
  gC : mg x = some (.ref C)
  k : ErrK K x st C
theorem ErrK.at_ {K : PySem.W.Frag} {mg : Str → Option Value} {h : Heap} {x : Str} {st : Stmt} {C : Addr} (E : ErrK K x st C) (X : K.In h) (G : h.Ns mainGlobals mg) : ErrM K mg x st C := ⟨PySem.W.mg_of X G E.gC, E⟩
theorem ErrM.ex {P : Program} {w : World} {K : PySem.W.Frag} {mg : Str → Option Value} {base : Heap} {x : Str} {st : Stmt} {C : Addr} (E : ErrM K mg x st C) (ok : ∀ f fd, Fun K "__init__" "WindowError.__init__" st f fd → FnOk P w K mg base CX0 1 f fd ["self", "value"] (sp_wi K))
    (hb : ∀ (kV doc pm : Value) (an : Option Addr) (cdv ct : Value) (us : List Value), us.length = (["self", "value"] : List Str).length → bindArgs (PySem.W.fnOf "__init__" "WindowError.__init__" (defArgs st) (defBody st) (defScope st) .none kV doc pm an cdv ct) ⟨us, []⟩ = pure ((["self", "value"] : List Str).zip us)) : ExC P w K mg base x C := by
  obtain ⟨fI, fd, F, i, t⟩ := E.k.ini
  exact ⟨E.gC, E.k.ox, E.k.xf, E.k.nv, E.k.te, fI, fd, ok _ _ F, i, t, F.binds hb⟩
end Lw
namespace Lw
open PySem PySem.Spec PyProof.Rows L2 Evl
section
variable {X : Cx} {σ : L2.St} {H : Hp} {Q : VK} {D : Ends} {a b e o i c : Expr} {p p' pos pos2 tpos : Pos}
/-- xs[i] by values -/
theorem get_list : PGet X (rIxL X.K) := by
  intro pins s σ H x y v u Q I rx ry h
  obtain ⟨p, xs, i, z, rfl, rfl, hq, he, q⟩ := h
  cases rx
  obtain ⟨t, rfl⟩ := ry
  obtain ⟨its, r, pl, hz⟩ := I.list hq
  obtain ⟨j, h1, h2, h3, h4, h5⟩ := atI_get he
  obtain ⟨w, ew, rw'⟩ := r.get h2
  have hl := r.length
  have hn := line63
  have fin : EP X pins σ Q w s := ⟨z, H, I, rw', q⟩
  by_cases h0 : 0 ≤ i
  · have hj : i.toNat = j := by
      rw [seqIndex_of h0 h5] at h1
      exact Option.some.inj h1
    exact wpAny_getItem_list pl.isList h0 (by omega) (by rw [hj]; simpa using ew) fin
  · have hj : (i + (its.toArray.size : Int)).toNat = j := by
      rw [seqIndex_neg (by omega) h4] at h1
      rw [List.size_toArray, ← hl]
      exact Option.some.inj h1
    exact wpAny_getItem_list_neg pl.isList (by omega) (by rw [List.size_toArray] <;> omega) (by omega) (by rw [hj]; simpa using ew) fin
/-- xs[i] += e, ints -/
theorem s_augItem (h : tAugS (Lw.WE X o) (Lw.WE X i) (Lw.WE X e) (rIxL X.K) (ipI fun i j => i + j) rSetL D σ H)
    (ha : ∀ ov iv new, augStore i ov iv new = (do holding [new, ov, iv] (setItem ov iv new); release [new, ov, iv] []; pure .next) := by intros; rfl) : WS X (.AugAssign (.Subscript o i tpos) .Add e pos) D σ H :=
  ⟨_, ps_augS Lw.WE.pe Lw.WE.pe get_list Lw.WE.pe ip_add set_list ha, h⟩
theorem WT.mono {QT QT' : Bool → Hp → Prop} (h : WT X c σ H QT) (hq : ∀ b H, QT b H → QT' b H) : WT X c σ H QT' :=
  ⟨fun σ H Q' => ∃ Q, WT X c σ H Q ∧ ∀ b H, Q b H → Q' b H, ⟨fun pins s σ H Q' I h' => by
    obtain ⟨Q, h1, h2⟩ := h'
    exact thn (WT.pt.run pins s σ H Q I h1) fun d s1 ⟨H1, I1, q⟩ => ⟨H1, I1, h2 _ _ q⟩⟩, QT, h, hq⟩
/-- while, by an invariant and a measure -/
theorem s_while {body : List Stmt} (Pv : L2.St → Hp → Prop) (μ : L2.St → Hp → Nat) (h0 : Pv σ H)
    (hs : ∀ σ H, Pv σ H → WT X c σ H fun b H1 => if b = true then WSs X body { D with nx := fun σ' H' => Pv σ' H' ∧ μ σ' H' < μ σ H, ct := fun σ' H' => Pv σ' H' ∧ μ σ' H' < μ σ H, bk := D.nx } σ H1 else D.nx σ H1)
    (hp : PassesOwn (model X.prog X.w) X.A X.env X.xe := by exact PassesOwn.never) : WS X (.While c body [] pos) D σ H :=
  ⟨_, ps_while hp WT.pt WSs.pss, while_by Pv μ h0 hs fun σ H Q Q' hq h => WT.mono h hq⟩
end
/-! ### slices of ints -/
theorem cut_to {ns : List Int} {k : Nat} (h : k ≤ ns.length) : cutV (ns.map V.int) none (some (k : Int)) = (ns.take k).map V.int := by
  unfold cutV
  rw [HT.sIx_none, HT.sIx_nat, List.length_map, Nat.min_eq_left h, List.drop_zero, Nat.sub_zero, List.map_take]
theorem cut_from {ns : List Int} {k : Nat} (h : k ≤ ns.length) : cutV (ns.map V.int) (some (k : Int)) none = (ns.drop k).map V.int := by
  unfold cutV
  rw [HT.sIx_none, HT.sIx_nat, List.length_map, Nat.min_eq_left h, ← List.map_drop, ← List.map_take, List.take_of_length_le (by rw [List.length_drop]; exact Nat.le_refl _)]
theorem cut_mid {ns : List Int} {i j : Nat} (h : i ≤ j) (h2 : j ≤ ns.length) : cutV (ns.map V.int) (some (i : Int)) (some (j : Int)) = ((ns.drop i).take (j - i)).map V.int := by
  unfold cutV
  rw [HT.sIx_nat, HT.sIx_nat, List.length_map, Nat.min_eq_left h2, Nat.min_eq_left (Nat.le_trans h h2), List.map_take, List.map_drop]
/-- xs[:k], k perhaps beyond -/
theorem cut_upto {ns : List Int} {k : Nat} : cutV (ns.map V.int) none (some (k : Int)) = (ns.take k).map V.int := by
  unfold cutV
  rw [HT.sIx_none, HT.sIx_nat, List.length_map, List.drop_zero, Nat.sub_zero, ← List.map_take]
  congr 1
  by_cases h : k ≤ ns.length
  · rw [Nat.min_eq_left h]
  · rw [Nat.min_eq_right (by omega), List.take_of_length_le (Nat.le_refl _), List.take_of_length_le (by omega)]
theorem emptyV (ns : List Int) : (ns.map V.int).isEmpty = ns.isEmpty := by cases ns <;> rfl
theorem at_map {ns : List Int} {i : Nat} {n : Int} (h : ns[i]? = some n) : (ns.map V.int)[i]? = some (.int n) := by rw [List.getElem?_map, h]; rfl
end Lw
/-! except clauses with names, one after the other; a def in a local name. -/
namespace Lw
open PySem PySem.Spec PyProof.Rows L2 Evl
/-- a clause: its class, the slot of its name, what its suite wishes -/
structure Cl where
  c : Value
  i : Nat
  ts : Addr → Value → Option Addr → TS
def wCls (K : PySem.W.Frag) (Wout : WX) (D : Ends) : List Cl → WX
  | [] => Wout
  | q :: r => fun cls d σ H => ∃ b, PySem.W.exmOne K cls q.c = some b ∧ (b = true → ∀ a, H a = none → q.ts a cls d (wipedAt q.i D) (σ.set q.i (some (.ref a))) H) ∧ (b = false → wCls K Wout D r cls d σ H)
inductive Cls (X : Cx) : List ExceptHandler → List Cl → Prop
  | nil : Cls X [] []
  | cons {x n : Str} {q : Cl} {b₀ : Stmt} {suite : List Stmt} {np pos : Pos} {hds : List ExceptHandler} {l : List Cl} (hc : Names X x q.c) (hi : X.N[q.i]? = some n) (hln : X.env.kindOf n = some .local)
      (hsu : ∀ (a : Addr) (oe : Obj) (cls : Value) (d : Option Addr) (pn : List (Addr × Obj)), Zc cls d oe → (∃ vs, oe.data = .fields vs) → PSs (X.suite a ((a, oe) :: pn)) (b₀ :: suite) (q.ts a cls d)) (r : Cls X hds l) :
      Cls X (.ExceptHandler (some (.Name x np)) (some n) (b₀ :: suite) pos :: hds) (q :: l)
section
variable {X : Cx} {body : List Stmt} {h₀ : ExceptHandler} {hds : List ExceptHandler} {l : List Cl} {pos : Pos} {tb : WX → TS} {Wout : WX}
theorem ps_try_cls (hs : X.stack = X.env :: X.outer) (hf : X.env.frame = some X.env.locals) (hN : X.N.Nodup) (tk : Takes X Wout)
    (hb : ∀ (W : WX) (pn : List (Addr × Obj)) (xe : Value → Shared → Prop), Takes (X.tr pn xe) W → PassesOwn (model X.prog X.w) X.A X.env xe → PSs (X.tr pn xe) body (tb W))
    (hh : Cls X (h₀ :: hds) l) : PS X (.Try body (h₀ :: hds) [] [] pos) (fun D σ H => tb (wCls X.K Wout D l) D σ H) := by
  refine ⟨fun pins s σ H D I h => ?_⟩
  have ok := I.ok
  have frames : X.A.frames = some (X.env :: X.outer) := by rw [ok.frames, hs]
  refine wpAny_Try_except (wpAny_mono ((hb (wCls X.K Wout D l) (X.pn ++ pins) (fun e s₁ => wpAny (model X.prog X.w) X.A (noteFrame e X.env) (fun _ s₂ => wpAny (model X.prog X.w) X.A (setFlight e none) (fun _ s₃ =>
    wpAny (model X.prog X.w) X.A (handleBy e X.env (h₀ :: hds)) (SP X pins D) X.xe s₃) X.xe s₂) X.xe s₁) (fun u s' caught => ?_) PassesOwn.looking).run [] s σ H D (I.toTry _) h) (fun f s1 done => ?_) (fun e s1 he => he))
  · obtain ⟨a, B, sI, pins', σ', H', cls, d, rfl, J', nb, up, sky, na, os, ag, w⟩ := caught
    have J : Inv X pins σ' H' sI := J'.ofTry ok
    show wpAny (model X.prog X.w) X.A (noteFrame (.ref a) X.env) _ _ _
    refine Sky.land Zc.steady frames hf (by rw [← hs]; exact sky) fun h3 fl3 up3 => ?_
    have J3 : Inv X pins σ' H' { s' with heap := h3 } := J.landed nb fl3.1 (up.trans up3) os ag
    obtain ⟨oe3, vs3, he3, hz3, hd3⟩ := fl3.there
    have out : a ∉ frs (X.env :: X.outer) := fun hm => by
      obtain ⟨_, o', e', hnf⟩ := fl3.2.2.1.mem hm
      cases he3.symm.trans e'
      exact hnf _ hd3
    have nL : a ≠ X.env.locals := fun z => out (List.mem_filterMap.mpr ⟨X.env, List.mem_cons_self, by rw [hf, z]⟩)
    have nF : a ∉ X.fs := fun hm => by
      obtain ⟨e, he, q⟩ := List.mem_filterMap.mp hm
      exact out (List.mem_filterMap.mpr ⟨e, List.mem_cons_of_mem _ he, q⟩)
    have S3 := J3.suite he3 hd3 na nL nF
    suffices key : ∀ {hs' : List ExceptHandler} {l' : List Cl}, Cls X hs' l' → wCls X.K Wout D l' cls d σ' H' → wpAny (model X.prog X.w) X.A (handleBy (.ref a) X.env hs') (SP X pins D) X.xe { s' with heap := h3 } from key hh w
    intro hs' l' hk
    induction hk with
    | nil =>
      intro w
      refine wpAny_handleBy_nil ?_
      obtain ⟨k1, k2, k3, oe, vs, T, oT, ts', he, hz, hd, h1, hr⟩ := id fl3
      unfold PySem.passOn
      refine wpAny_bind (wpAny_field he hd h1 ?_)
      rw [if_neg (show ¬ ((Value.ref T == Value.none) = true) from by simp)]
      have on : wpAny (model X.prog X.w) X.A (setFlight (.ref a) X.env.frame) (fun _ s4 => wpAny (model X.prog X.w) X.A (throw (.ref a) : Sem Flow) (SP X pins D) X.xe s4) X.xe { s' with heap := h3 } := by
        rw [hf]
        exact HandSPX.setFlight_upZ fl3 fun h4 hh4 up4 => wpAny_throw (tk _ _ ⟨a, B, sI, pins, σ', H', cls, d, rfl, J, nb, (up.trans up3).trans up4, .inr (.inr (by rw [hs]; exact hh4)), na, os, ag, w⟩)
      first
        | exact wpAny_bind (wpAny_pure (wpAny_bind on))
        | exact wpAny_bind on
    | @cons x n q b₀ suite np pos' hds2 l2 hc hi hln hsu r ih =>
      intro w
      obtain ⟨b, hb1, yes, no⟩ := w
      refine wpAny_handleBy_cons (codeAny_handlers_test ?_) (by intro q; cases q)
      have looks : PySem.W.Looks (model X.prog X.w) h3 (typeOf (.ref a)) cls := fun A Q E s k q => wpAny_typeOf_ref (k _ _ he3) (by rw [hz3.1]; exact q)
      have test : ∀ {Q : Value → Shared → Prop} {E : Value → Shared → Prop}, Q q.c { s' with heap := h3 } → wpAny (model X.prog X.w) (X.A.mark (some (.ref a))) (eval (.Name x np) X.env) Q E { s' with heap := h3 } := fun {Q E} z => by
        obtain ⟨hg, hdbg, hm | ⟨hm, hv, hnn⟩⟩ := hc
        · exact ld_glob (X := X.suite a ((a, oe3) :: (X.pn ++ pins))) S3 hg hm z hdbg
        · exact ld_blt (X := X.suite a ((a, oe3) :: (X.pn ++ pins))) S3 hg hm hv z hnn hdbg
      refine test ((PySem.W.exm_one (M := model X.prog X.w) (J3.kIn) looks hb1).here ?_)
      cases b with
      | false =>
        show wpAny (model X.prog X.w) X.A (handleBy (.ref a) X.env hds2) _ _ _
        exact ih (no rfl)
      | true =>
        refine codeAny_handlers_suite_as (HandSPX.lands_againZ fl3 fun h4 fl4 up4 => ?_)
        have J4 : Inv X pins σ' H' { s' with heap := h4 } := J.landed nb fl4.1 ((up.trans up3).trans up4) os ag
        obtain ⟨oe4, vs4, he4, hz4, hd4⟩ := fl4.there
        refine store_ok (X := X.suite a ((a, oe4) :: (X.pn ++ pins))) (v := .ref a) (J4.suite he4 hd4 na nL nF) hN hi (.inl hln) rfl (fun s5 S5 => ?_) (.inr hln)
        refine wpAny_mono ((hsu a oe4 cls d (X.pn ++ pins) hz4 ⟨_, hd4⟩).run [] s5 _ H' _ S5 (yes rfl a na)) (fun f s6 e6 => ?_) (fun _ _ z => False.elim z)
        cases f with
        | ret u =>
          obtain ⟨v6, σ6, H6, S6, r6, q6⟩ := e6
          exact gone_ok (S6.unsuite ok) hN hi hln fun s7 J7 => ⟨_, _, _, J7, r6, q6⟩
        | next =>
          obtain ⟨σ6, H6, S6, q6⟩ := e6
          exact gone_ok (S6.unsuite ok) hN hi hln fun s7 J7 => ⟨_, _, J7, q6⟩
        | brk =>
          obtain ⟨σ6, H6, S6, q6⟩ := e6
          exact gone_ok (S6.unsuite ok) hN hi hln fun s7 J7 => ⟨_, _, J7, q6⟩
        | cont =>
          obtain ⟨σ6, H6, S6, q6⟩ := e6
          exact gone_ok (S6.unsuite ok) hN hi hln fun s7 J7 => ⟨_, _, J7, q6⟩
  · cases f with
    | next =>
      obtain ⟨σ', H', J', q⟩ := done
      exact wpAny_execs_nil ⟨σ', H', J'.ofTry ok, q⟩
    | brk =>
      obtain ⟨σ', H', J', q⟩ := done
      exact ⟨σ', H', J'.ofTry ok, q⟩
    | cont =>
      obtain ⟨σ', H', J', q⟩ := done
      exact ⟨σ', H', J'.ofTry ok, q⟩
    | ret u =>
      obtain ⟨v, σ', H', J', r, q⟩ := done
      exact ⟨v, σ', H', J'.ofTry ok, r, q⟩
end
section
variable {X : Cx} {σ : L2.St} {H : Hp} {D : Ends} {n x1 x2 : Str} {np1 np2 pos pos1 pos2 : Pos} {body s1 s2 : List Stmt} {b1 b2 : Stmt} {c1 c2 : Addr}
/-- try: body / except x1 as n: .. / except x2 as n: .. -/
theorem s_tryAs2 (i : Nat) (hN : X.N.Nodup) (hm1 : X.mg x1 = some (.ref c1)) (hm2 : X.mg x2 = some (.ref c2)) (hs : X.stack = X.env :: X.outer := by rfl) (hf : X.env.frame = some X.env.locals := by rfl) (hi : X.N[i]? = some n := by rfl) (hln : X.env.kindOf n = some .local := by rfl)
    (hg1 : Gl X x1 := by rfl) (hdb1 : (x1 == ("__debug__" : Str)) = false := by decide) (hg2 : Gl X x2 := by rfl) (hdb2 : (x2 == ("__debug__" : Str)) = false := by decide)
    (h : ∀ (W : WX) (pn : List (Addr × Obj)) (xe : Value → Shared → Prop), Takes (X.tr pn xe) W → PassesOwn (model X.prog X.w) X.A X.env xe →
      (∀ (C dd : Addr) (σ' : L2.St) (H' : Hp), PySem.W.exmOne X.K (.ref C) (.ref c1) = some true →
        (∀ (a : Addr) (oe : Obj) (pn : List (Addr × Obj)), Zc (.ref C) (some dd) oe → (∃ vs, oe.data = .fields vs) → H' a = none → WSs (X.suite a ((a, oe) :: pn)) (b1 :: s1) (wipedAt i D) (σ'.set i (some (.ref a))) H') → W (.ref C) (some dd) σ' H') →
      (∀ (C dd : Addr) (σ' : L2.St) (H' : Hp), PySem.W.exmOne X.K (.ref C) (.ref c1) = some false → PySem.W.exmOne X.K (.ref C) (.ref c2) = some true →
        (∀ (a : Addr) (oe : Obj) (pn : List (Addr × Obj)), Zc (.ref C) (some dd) oe → (∃ vs, oe.data = .fields vs) → H' a = none → WSs (X.suite a ((a, oe) :: pn)) (b2 :: s2) (wipedAt i D) (σ'.set i (some (.ref a))) H') → W (.ref C) (some dd) σ' H') →
      WSs (X.tr pn xe) body D σ H) : WS X (.Try body [.ExceptHandler (some (.Name x1 np1)) (some n) (b1 :: s1) pos1, .ExceptHandler (some (.Name x2 np2)) (some n) (b2 :: s2) pos2] [] [] pos) D σ H := by
  refine ⟨_, ps_try_cls (tb := fun W D σ H => ∀ pn xe, Takes (X.tr pn xe) W → PassesOwn (model X.prog X.w) X.A X.env xe → WSs (X.tr pn xe) body D σ H)
    (l := [⟨.ref c1, i, fun a cls d D' σ' H' => ∀ (oe : Obj) (pn : List (Addr × Obj)), Zc cls d oe → (∃ vs, oe.data = .fields vs) → WSs (X.suite a ((a, oe) :: pn)) (b1 :: s1) D' σ' H'⟩,
      ⟨.ref c2, i, fun a cls d D' σ' H' => ∀ (oe : Obj) (pn : List (Addr × Obj)), Zc cls d oe → (∃ vs, oe.data = .fields vs) → WSs (X.suite a ((a, oe) :: pn)) (b2 :: s2) D' σ' H'⟩])
    (Wout := fun _ _ _ _ => False) hs hf hN takes0 (fun W pn xe tk po => ⟨fun pins s σ H D I h => WSs.pss.run pins s σ H D I (h pn xe tk po)⟩)
    (.cons ⟨hg1, hdb1, .inl hm1⟩ hi hln (fun a oe cls d pn hz hf' => ⟨fun pins s σ H D I h => WSs.pss.run pins s σ H D I (h oe pn hz hf')⟩)
      (.cons ⟨hg2, hdb2, .inl hm2⟩ hi hln (fun a oe cls d pn hz hf' => ⟨fun pins s σ H D I h => WSs.pss.run pins s σ H D I (h oe pn hz hf')⟩) .nil)), ?_⟩
  intro pn xe tk po
  exact h _ pn xe tk po (fun C dd σ' H' te hsu => ⟨true, te, fun _ a ha oe pn hz hf' => hsu a oe pn hz hf' ha, fun z => nomatch z⟩)
    (fun C dd σ' H' te te2 hsu => ⟨false, te, (fun z => nomatch z), fun _ => ⟨true, te2, fun _ a ha oe pn hz hf' => hsu a oe pn hz hf' ha, fun z => nomatch z⟩⟩)
end
/-! ### a op1 b op2 c op3 d -/
section
variable {X : Cx} {a b c d : Expr} {pos : Pos} {r r' r'' : R2}
def tChain3 (r r' r'' : R2) (ta tb tc td : TE) : TE := fun σ H Q => ta σ H fun x H1 => tb σ H1 fun y H2 => r x y H2 fun z H3 => ∃ k, z = .bl k ∧
  (if k = true then tc σ H3 fun x2 H4 => r' y x2 H4 fun z2 H5 => ∃ k2, z2 = .bl k2 ∧ (if k2 = true then td σ H5 fun x3 H6 => r'' x2 x3 H6 Q else Q (.bl false) H5) else Q (.bl false) H3)
theorem pe_chain3 {op op' op'' : CmpOp} {ta tb tc td : TE} (ho : OpR X (compareOp op) r) (ho' : OpR X (compareOp op') r') (ho'' : OpR X (compareOp op'') r'') (ha : PE X a ta) (hb : PE X b tb) (hc : PE X c tc) (hd : PE X d td)
    (hm : lastMarks [op, op', op''] [b, c, d] = false := by with_unfolding_all rfl) : PE X (.Compare a [op, op', op''] [b, c, d] pos) (tChain3 r r' r'' ta tb tc td) := by
  refine ⟨fun pins s σ H Q I h => ?_⟩
  refine Compare_chain (thn (ha.run pins s σ H _ I h) fun v s1 ⟨x, H1, I1, r1, q1⟩ => chain_link (thn (hb.run pins s1 σ H1 _ I1 q1) fun u s2 ⟨y, H2, I2, r2, q2⟩ =>
    thn (ho pins s2 σ H2 x y v u _ I2 r1 r2 q2) fun d s3 ⟨z, H3, I3, r3, k, e, q3⟩ => ?_)) hm
  subst e
  cases r3
  refine wpAny_truthy_bool ?_
  cases k with
  | false => exact ite_ff ⟨.bl false, H3, I3, rfl, q3⟩
  | true =>
    refine ite_tt (chain_link (thn (hc.run pins s3 σ H3 _ I3 q3) fun w s4 ⟨x2, H4, I4, r4, q4⟩ => thn (ho' pins s4 σ H4 y x2 u w _ I4 r2 r4 q4) fun d5 s5 ⟨z2, H5, I5, r5, k2, e2, q5⟩ => ?_))
    subst e2
    cases r5
    refine wpAny_truthy_bool ?_
    cases k2 with
    | false => exact ite_ff ⟨.bl false, H5, I5, rfl, q5⟩
    | true => exact ite_tt (chain_last (thn (hd.run pins s5 σ H5 _ I5 q5) fun w' s6 ⟨x3, H6, I6, r6, q6⟩ => ho'' pins s6 σ H6 x2 x3 w w' Q I6 r4 r6 q6))
theorem e_chain3 {σ : L2.St} {H : Hp} {Q : VK} {op op' op'' : CmpOp} (ho : OpR X (compareOp op) r) (ho' : OpR X (compareOp op') r') (ho'' : OpR X (compareOp op'') r'') (hm : lastMarks [op, op', op''] [b, c, d] = false := by with_unfolding_all rfl)
    (h : tChain3 r r' r'' (WE X a) (WE X b) (WE X c) (WE X d) σ H Q) : WE X (.Compare a [op, op', op''] [b, c, d] pos) σ H Q := ⟨_, pe_chain3 ho ho' ho'' WE.pe WE.pe WE.pe WE.pe hm, h⟩
theorem e_chain {σ : L2.St} {H : Hp} {Q : VK} {op op' : CmpOp} (ho : OpR X (compareOp op) r) (ho' : OpR X (compareOp op') r') (hm : lastMarks [op, op'] [b, c] = false := by with_unfolding_all rfl)
    (h : tChain r r' (WE X a) (WE X b) (WE X c) σ H Q) : WE X (.Compare a [op, op'] [b, c] pos) σ H Q := ⟨_, pe_chain ho ho' WE.pe WE.pe WE.pe hm, h⟩
end
section
variable {X : Cx} {σ : L2.St} {H : Hp} {D : Ends} {e : Expr} {p' pos : Pos}
/-- n //= e, ints -/
theorem s_augFdiv (i : Nat) {n : Str} (hN : X.N.Nodup) (hi : X.N[i]? = some n := by rfl) (hx : Loc X.env.scope n := by first | exact Or.inl rfl | exact Or.inr rfl) (hf : X.fn n = true ∨ X.env.scope.names.lookup n = some .local := by first | exact .inl rfl | exact .inr rfl | assumption)
    (h : ∃ v, σ[i]? = some (some v) ∧ WE X e σ H fun y H1 => ∃ a b, v = .int a ∧ y = .int b ∧ CDivW a b ∧ D.nx (σ.set i (some (.int (a / b)))) H1) : WS X (.AugAssign (.Name n p') .FloorDiv e pos) D σ H := ⟨_, ps_aug hN hi hx WE.pe iop_fdivW hf, h⟩
end
section
variable {X : Cx} {σ : L2.St} {H : Hp} {D : Ends} {a b c : Expr} {pos : Pos}
theorem s_par3 (i j l : Nat) {x y z : Str} {px py pz pt : Pos} {kt k2 pt2} (hN : X.N.Nodup) (hij : i ≠ j := by decide) (hil : i ≠ l := by decide) (hjl : j ≠ l := by decide) (hc : X.calm = true := by rfl) (hi : X.N[i]? = some x := by rfl) (hj : X.N[j]? = some y := by rfl) (hl : X.N[l]? = some z := by rfl)
    (hx : X.env.scope.names.lookup x = some .local := by rfl) (hy : X.env.scope.names.lookup y = some .local := by rfl) (hz : X.env.scope.names.lookup z = some .local := by rfl)
    (hw : swappedStores [.Tuple [.Name x px, .Name y py, .Name z pz] kt pt] (.Tuple [a, b, c] k2 pt2) X.env = pure (some [x, y, z]) := by rfl)
    (hs : swapsWithSole [.Tuple [.Name x px, .Name y py, .Name z pz] kt pt] (.Tuple [a, b, c] k2 pt2) pos.line X.env = pure false := by rfl)
    (h : WA X [a, b, c] σ H fun vs H1 => ∃ u v w, vs = [u, v, w] ∧ D.nx (((σ.set i (some u)).set j (some v)).set l (some w)) H1) : WS X (.Assign [.Tuple [.Name x px, .Name y py, .Name z pz] kt pt] (.Tuple [a, b, c] k2 pt2) pos) D σ H := ⟨_, ps_par3 hc hN hi hj hl hij hil hjl hx hy hz WA.pa hw hs, h⟩
end
/-! ### a def in a local name -/
/-- the def at f, that is called by a name that holds it -/
structure HeldD (P : Program) (w : World) (K : PySem.W.Frag) (mg : Str → Option Value) (base : Heap) (f : Addr) (k : Nat) (ps : List Str) (sp : Sp) : Prop where
  ex : ∃ fd, FnOk P w K mg base CX0 k f fd ps sp ∧ PySem.W.keepIn K (.ref f) = true ∧ Binds K fd ps []
section
variable {X : Cx} {σ : L2.St} {H : Hp} {Q : VK} {e : Expr} {es : List Expr} {pos p2 : Pos} {x : Str} {k : Nat} {ps : List Str} {sp : Sp} {f : Addr}
theorem e_callL (i : Nat) (cl : HeldD X.prog X.w X.K X.mg X.base f k ps sp) (hr : Room k X.A) (hN : X.N[i]? = some x := by rfl) (hv : Vis X.env.scope x := by first | exact Or.inl rfl | exact .inl (.inl rfl) | exact .inl rfl | exact .inr rfl) (hdb : (x == ("__debug__" : Str)) = false := by decide) (hcd : (x == ("__classdict__" : Str)) = false := by decide)
    (he : starEach (e :: es) X.env = (false, eval e X.env) :: starEach es X.env := by rfl) (hpl : (backTo pos (starEach es X.env)).any (·.1) = false := by rfl)
    (h : σ[i]? = some (some (.ref f)) ∧ WA X (e :: es) σ H fun vs H1 => sp vs H1 Q E0) : WE X (.Call (.Name x p2) (e :: es) [] pos) σ H Q := by
  obtain ⟨fd, F, hk, hb⟩ := cl.ex
  refine ⟨_, pe_callL (i := i) F hr hN hv hk hb .nil pass0 WA.pa hdb hcd he hpl, h.1, ?_⟩
  show WA X (e :: es) σ H fun vs H1 => sp (vs ++ []) H1 Q E0
  simp only [List.append_nil]
  exact h.2
end
end Lw
namespace Te
/-- where a scroll is led: the room's size, the later sizes, the turns -/
def led : Int → List Int → List Int → Int → Int
  | r, l :: L, t :: T, x => led l L T (min l (max 0 (min r (x + t))))
  | _, [], _, x => x
  | _, _ :: _, [], x => x
structure E3 where
  s : Int
  l : Int
  h : Int
  deriving DecidableEq
def app (e : E3) (x : Int) : Int := max e.l (min e.h (x + e.s))
def shf (s l h : Int) : Int := if l < h then s else 0
def eff (r : Int) (L T : List Int) : E3 := ⟨shf T.sum (led r L T 0) (led r L T r), led r L T 0, led r L T r⟩
theorem led_mono : ∀ {L T : List Int} {r x y : Int}, x ≤ y → led r L T x ≤ led r L T y
  | [], T, r, x, y, h => by unfold led; exact h
  | _ :: _, [], r, x, y, h => by unfold led; exact h
  | l :: L, t :: T, r, x, y, h => by
    unfold led
    exact led_mono (by omega)
theorem cl_cl {A B a b c : Int} (h1 : A ≤ B) (h2 : a ≤ b) : max A (min B (max a (min b c))) = max (max A (min B a)) (min (max A (min B b)) c) := by omega
theorem led_clip : ∀ {L T : List Int} {r x : Int}, L.length = T.length → 0 ≤ r → (∀ l ∈ L, 0 ≤ l) → 0 ≤ x → x ≤ r → led r L T x = max (led r L T 0) (min (led r L T r) (x + T.sum))
  | [], [], r, x, _, r0, _, x0, x1 => by
    unfold led
    show x = max 0 (min r (x + 0))
    omega
  | [], _ :: _, _, _, h, _, _, _, _ => by cases h
  | _ :: _, [], _, _, h, _, _, _, _ => by cases h
  | l :: L, t :: T, r, x, hl, r0, L0, x0, x1 => by
    have l0 := L0 l List.mem_cons_self
    have L1 : ∀ l ∈ L, 0 ≤ l := fun q hq => L0 q (List.mem_cons_of_mem _ hq)
    have hl' : L.length = T.length := Nat.succ.inj hl
    have ih : ∀ y, 0 ≤ y → y ≤ l → led l L T y = max (led l L T 0) (min (led l L T l) (y + T.sum)) := fun y y0 y1 => led_clip hl' l0 L1 y0 y1
    have hm : led l L T 0 ≤ led l L T l := led_mono l0
    unfold led
    rw [List.sum_cons]
    generalize led l L T 0 = A at *
    generalize led l L T l = B at *
    rw [ih (min l (max 0 (min r (x + t)))) (by omega) (by omega), ih (min l (max 0 (min r (0 + t)))) (by omega) (by omega), ih (min l (max 0 (min r (r + t)))) (by omega) (by omega)]
    obtain ⟨p, hp⟩ : ∃ p, p = min l (max 0 (min r (0 + t))) := ⟨_, rfl⟩
    obtain ⟨q, hq⟩ : ∃ q, q = min l (max 0 (min r (r + t))) := ⟨_, rfl⟩
    have e : min l (max 0 (min r (x + t))) = max p (min q (x + t)) := by omega
    have pq : p ≤ q := by omega
    rw [e, ← hp, ← hq]
    clear e hp hq ih
    have := cl_cl (A := A) (B := B) (a := p + T.sum) (b := q + T.sum) (c := x + t + T.sum) hm (by omega)
    rw [show x + (t + T.sum) = x + t + T.sum by omega, ← this]
    congr 2
    omega
theorem led_ge : ∀ {L T : List Int} {r x : Int}, (∀ l ∈ L, 0 ≤ l) → 0 ≤ x → 0 ≤ led r L T x
  | [], T, r, x, _, h => by unfold led; exact h
  | _ :: _, [], r, x, _, h => by unfold led; exact h
  | l :: L, t :: T, r, x, L0, h => by
    unfold led
    have := L0 l List.mem_cons_self
    exact led_ge (fun q hq => L0 q (List.mem_cons_of_mem _ hq)) (by omega)
theorem led_le {M : Int} : ∀ {L T : List Int} {r x : Int}, (∀ l ∈ L, l ≤ M) → x ≤ M → led r L T x ≤ M
  | [], T, r, x, _, h => by unfold led; exact h
  | _ :: _, [], r, x, _, h => by unfold led; exact h
  | l :: L, t :: T, r, x, L0, h => by
    unfold led
    have := L0 l List.mem_cons_self
    exact led_le (fun q hq => L0 q (List.mem_cons_of_mem _ hq)) (by omega)
theorem eff_app {L T : List Int} {r x : Int} (hl : L.length = T.length) (r0 : 0 ≤ r) (L0 : ∀ l ∈ L, 0 ≤ l) (x0 : 0 ≤ x) (x1 : x ≤ r) : led r L T x = app (eff r L T) x := by
  have h := led_clip hl r0 L0 x0 x1
  have hm : led r L T 0 ≤ led r L T r := led_mono r0
  rw [h]
  show _ = max (led r L T 0) (min (led r L T r) (x + shf T.sum (led r L T 0) (led r L T r)))
  unfold shf
  split
  · rfl
  · omega
/-! ### effects on one room -/
structure Va (r : Int) (e : E3) : Prop where
  r0 : 0 ≤ r
  l0 : 0 ≤ e.l
  lh : e.l ≤ e.h
  hr : e.h ≤ r
  s0 : e.l < e.h → e.h - r ≤ e.s ∧ e.s ≤ e.l
  s1 : e.l = e.h → e.s = 0
theorem app_in {r x : Int} {e : E3} (v : Va r e) : 0 ≤ app e x ∧ app e x ≤ r := by
  have := v.l0; have := v.lh; have := v.hr
  unfold app
  omega
theorem app_mono {e : E3} {x y : Int} (h : x ≤ y) : app e x ≤ app e y := by unfold app; omega
theorem app_0 {r : Int} {e : E3} (v : Va r e) : app e 0 = e.l := by
  have := v.lh
  have := v.s0
  unfold app
  by_cases c : e.l < e.h
  · have := v.s0 c; omega
  · omega
theorem app_r {r : Int} {e : E3} (v : Va r e) : app e r = e.h := by
  have := v.lh
  have := v.s0
  unfold app
  by_cases c : e.l < e.h
  · have := v.s0 c; omega
  · omega
theorem ext {r : Int} {a b : E3} (va : Va r a) (vb : Va r b) (h : ∀ x, 0 ≤ x → x ≤ r → app a x = app b x) : a = b := by
  have e1 := h 0 (Int.le_refl _) va.r0
  have e2 := h r va.r0 (Int.le_refl _)
  rw [app_0 va, app_0 vb] at e1
  rw [app_r va, app_r vb] at e2
  have e3 : a.s = b.s := by
    by_cases c : a.l < a.h
    · have p := va.s0 c
      have q := vb.s0 (by omega)
      by_cases d : a.s < b.s
      · have := h (a.l - a.s) (by omega) (by have := va.hr; omega)
        unfold app at this
        omega
      · by_cases d2 : b.s < a.s
        · have := h (b.l - b.s) (by omega) (by have := vb.hr; omega)
          unfold app at this
          omega
        · omega
    · have := va.lh
      rw [va.s1 (by omega), vb.s1 (by omega)]
  cases a; cases b
  simp only at e1 e2 e3
  subst e1; subst e2; subst e3
  rfl
def joinE (a b : E3) : E3 := ⟨shf (a.s + b.s) (app b a.l) (app b a.h), app b a.l, app b a.h⟩
theorem join_app {r x : Int} {a b : E3} (va : Va r a) (vb : Va r b) (x0 : 0 ≤ x) (x1 : x ≤ r) : app (joinE a b) x = app b (app a x) := by
  have := va.lh
  have := vb.lh
  have hm : app b a.l ≤ app b a.h := app_mono va.lh
  show max (app b a.l) (min (app b a.h) (x + shf (a.s + b.s) (app b a.l) (app b a.h))) = app b (max a.l (min a.h (x + a.s)))
  unfold shf
  by_cases c : a.l < a.h
  · by_cases d : app b a.l < app b a.h
    · rw [if_pos d]
      unfold app at *
      omega
    · rw [if_neg d]
      have h1 : app b a.l ≤ app b (max a.l (min a.h (x + a.s))) := app_mono (by omega)
      have h2 : app b (max a.l (min a.h (x + a.s))) ≤ app b a.h := app_mono (by omega)
      omega
  · have e : a.l = a.h := by omega
    rw [if_neg (by rw [e]; omega), show max a.l (min a.h (x + a.s)) = a.l by omega, e]
    omega
theorem join_V {r : Int} {a b : E3} (va : Va r a) (vb : Va r b) : Va r (joinE a b) := by
  have ha := app_in (x := a.l) vb
  have hb := app_in (x := a.h) vb
  have hm : app b a.l ≤ app b a.h := app_mono va.lh
  refine ⟨va.r0, ha.1, hm, hb.2, fun c => ?_, fun c => ?_⟩
  · show app b a.h - r ≤ shf (a.s + b.s) (app b a.l) (app b a.h) ∧ shf (a.s + b.s) (app b a.l) (app b a.h) ≤ app b a.l
    have c' : app b a.l < app b a.h := c
    unfold shf
    rw [if_pos c']
    have h1 : a.l < a.h := by
      have := va.lh
      by_cases z : a.l = a.h
      · rw [z] at c'; omega
      · omega
    have h2 : b.l < b.h := by unfold app at c'; omega
    have p := va.s0 h1
    have q := vb.s0 h2
    unfold app at *
    omega
  · show shf (a.s + b.s) (app b a.l) (app b a.h) = 0
    have c' : app b a.l = app b a.h := c
    unfold shf
    rw [if_neg (by omega)]
theorem join_assoc {r : Int} {a b c : E3} (va : Va r a) (vb : Va r b) (vc : Va r c) : joinE (joinE a b) c = joinE a (joinE b c) := by
  refine ext (join_V (join_V va vb) vc) (join_V va (join_V vb vc)) fun x x0 x1 => ?_
  rw [join_app (join_V va vb) vc x0 x1, join_app va vb x0 x1, join_app va (join_V vb vc) x0 x1, join_app vb vc (app_in va).1 (app_in va).2]
def idE (r : Int) : E3 := ⟨0, 0, r⟩
theorem id_V {r : Int} (r0 : 0 ≤ r) : Va r (idE r) := ⟨r0, Int.le_refl _, r0, Int.le_refl _, fun _ => ⟨by show r - r ≤ 0; omega, Int.le_refl _⟩, fun _ => rfl⟩
theorem id_app {r x : Int} (x0 : 0 ≤ x) (x1 : x ≤ r) : app (idE r) x = x := by
  show max 0 (min r (x + 0)) = x
  omega
theorem join_id {r : Int} {a : E3} (va : Va r a) : joinE a (idE r) = a :=
  ext (join_V va (id_V va.r0)) va fun x x0 x1 => by rw [join_app va (id_V va.r0) x0 x1, id_app (app_in va).1 (app_in va).2]
theorem id_join {r : Int} {a : E3} (va : Va r a) : joinE (idE r) a = a :=
  ext (join_V (id_V va.r0) va) va fun x x0 x1 => by rw [join_app (id_V va.r0) va x0 x1, id_app x0 x1]
/-! ### so many times -/
def pw (r : Int) (e : E3) : Nat → E3
  | 0 => idE r
  | n + 1 => joinE (pw r e n) e
theorem pw_V {r : Int} {e : E3} (v : Va r e) : ∀ n, Va r (pw r e n)
  | 0 => id_V v.r0
  | n + 1 => join_V (pw_V v n) v
theorem pw_add {r : Int} {e : E3} (v : Va r e) (m : Nat) : ∀ n, pw r e (m + n) = joinE (pw r e m) (pw r e n)
  | 0 => (join_id (pw_V v m)).symm
  | n + 1 => by
    show joinE (pw r e (m + n)) e = joinE (pw r e m) (joinE (pw r e n) e)
    rw [pw_add v m n, join_assoc (pw_V v m) (pw_V v n) v]
theorem pw_one {r : Int} {e : E3} (v : Va r e) : pw r e 1 = e := id_join v
theorem pw_two {r : Int} {e : E3} (v : Va r e) : ∀ n, pw r (joinE e e) n = pw r e (2 * n)
  | 0 => rfl
  | n + 1 => by
    show joinE (pw r (joinE e e) n) (joinE e e) = pw r e (2 * n + 2)
    rw [pw_two v n, pw_add v (2 * n) 2]
    congr 1
    show joinE e e = joinE (joinE (idE r) e) e
    rw [id_join v]
/-- a step of the halving -/
theorem pw_half {r : Int} {m p : E3} (vm : Va r m) (vp : Va r p) (n : Nat) : joinE (if n % 2 = 1 then joinE m p else m) (pw r (joinE p p) (n / 2)) = joinE m (pw r p n) := by
  rw [pw_two vp]
  split
  · rename_i h
    have e : pw r p n = joinE p (pw r p (2 * (n / 2))) := by
      have h1 := pw_add vp 1 (2 * (n / 2))
      rw [pw_one vp] at h1
      rw [← h1]
      congr 1
      omega
    rw [e, join_assoc vm vp (pw_V vp _)]
  · congr 2
    omega
/-! ### rooms of one size -/
def cr (r : Int) (T : List Int) : List Int := List.replicate T.length r
theorem cr_len (r : Int) (T : List Int) : (cr r T).length = T.length := List.length_replicate
theorem cr_mem {r l : Int} {T : List Int} (h : l ∈ cr r T) : l = r := (List.mem_replicate.mp h).2
def effC (r : Int) (T : List Int) : E3 := eff r (cr r T) T
theorem effC_app {r x : Int} {T : List Int} (r0 : 0 ≤ r) (x0 : 0 ≤ x) (x1 : x ≤ r) : led r (cr r T) T x = app (effC r T) x :=
  eff_app (cr_len r T) r0 (fun l hl => by rw [cr_mem hl]; exact r0) x0 x1
theorem effC_V {r : Int} (r0 : 0 ≤ r) (T : List Int) : Va r (effC r T) := by
  have L0 : ∀ l ∈ cr r T, 0 ≤ l := fun l hl => by rw [cr_mem hl]; exact r0
  have L1 : ∀ l ∈ cr r T, l ≤ r := fun l hl => by rw [cr_mem hl]; exact Int.le_refl _
  have c0 := led_clip (r := r) (x := 0) (cr_len r T) r0 L0 (Int.le_refl _) r0
  have c1 := led_clip (r := r) (x := r) (cr_len r T) r0 L0 r0 (Int.le_refl _)
  refine ⟨r0, led_ge L0 (Int.le_refl _), led_mono r0, led_le L1 (Int.le_refl _), fun c => ?_, fun c => ?_⟩
  · have c' : led r (cr r T) T 0 < led r (cr r T) T r := c
    show led r (cr r T) T r - r ≤ shf T.sum (led r (cr r T) T 0) (led r (cr r T) T r) ∧ shf T.sum (led r (cr r T) T 0) (led r (cr r T) T r) ≤ led r (cr r T) T 0
    unfold shf
    rw [if_pos c']
    omega
  · have c' : led r (cr r T) T 0 = led r (cr r T) T r := c
    show shf T.sum (led r (cr r T) T 0) (led r (cr r T) T r) = 0
    unfold shf
    rw [if_neg (by omega)]
theorem led_app (r : Int) : ∀ (A B : List Int) (x : Int), led r (cr r (A ++ B)) (A ++ B) x = led r (cr r B) B (led r (cr r A) A x)
  | [], B, x => by
    have e : led r (cr r []) [] x = x := by unfold cr; rfl
    rw [e, List.nil_append]
  | a :: A, B, x => by
    have e1 : cr r ((a :: A) ++ B) = r :: cr r (A ++ B) := by unfold cr; rfl
    have e2 : cr r (a :: A) = r :: cr r A := by unfold cr; rfl
    rw [e1, e2, List.cons_append]
    show led r (cr r (A ++ B)) (A ++ B) _ = led r (cr r B) B (led r (cr r A) A _)
    exact led_app r A B _
theorem effC_join {r : Int} (r0 : 0 ≤ r) (A B : List Int) : joinE (effC r A) (effC r B) = effC r (A ++ B) := by
  refine ext (join_V (effC_V r0 A) (effC_V r0 B)) (effC_V r0 _) fun x x0 x1 => ?_
  rw [join_app (effC_V r0 A) (effC_V r0 B) x0 x1, ← effC_app (T := A ++ B) r0 x0 x1, led_app, effC_app (T := A) r0 x0 x1, effC_app r0 (app_in (effC_V r0 A)).1 (app_in (effC_V r0 A)).2]
theorem effC_nil {r : Int} (r0 : 0 ≤ r) : effC r [] = idE r :=
  ext (effC_V r0 []) (id_V r0) fun x x0 x1 => by
    rw [← effC_app r0 x0 x1, id_app x0 x1]
    unfold cr; rfl
def rep (T : List Int) (n : Nat) : List Int := (List.replicate n T).flatten
theorem rep_s (T : List Int) (n : Nat) : rep T (n + 1) = rep T n ++ T := by
  unfold rep
  rw [List.replicate_succ', List.flatten_append, List.flatten_singleton]
theorem effC_pw {r : Int} (r0 : 0 ≤ r) (T : List Int) : ∀ n, pw r (effC r T) n = effC r (rep T n)
  | 0 => (effC_nil r0).symm
  | n + 1 => by
    show joinE (pw r (effC r T) n) (effC r T) = _
    rw [effC_pw r0 T n, effC_join r0, rep_s]
/-! ### great rooms -/
def sc (w : Int) (e : E3) : E3 := ⟨w * e.s, w * e.l, w * e.h⟩
theorem mul_max {w : Int} (h : 0 < w) (a b : Int) : w * max a b = max (w * a) (w * b) := by
  have h1 : a ≤ b → w * a ≤ w * b := fun z => Int.mul_le_mul_of_nonneg_left z (by omega)
  have h2 : b ≤ a → w * b ≤ w * a := fun z => Int.mul_le_mul_of_nonneg_left z (by omega)
  by_cases c : a ≤ b
  · rw [Int.max_eq_right c, Int.max_eq_right (h1 c)]
  · rw [Int.max_eq_left (by omega), Int.max_eq_left (h2 (by omega))]
theorem mul_min {w : Int} (h : 0 < w) (a b : Int) : w * min a b = min (w * a) (w * b) := by
  have h1 : a ≤ b → w * a ≤ w * b := fun z => Int.mul_le_mul_of_nonneg_left z (by omega)
  have h2 : b ≤ a → w * b ≤ w * a := fun z => Int.mul_le_mul_of_nonneg_left z (by omega)
  by_cases c : a ≤ b
  · rw [Int.min_eq_left c, Int.min_eq_left (h1 c)]
  · rw [Int.min_eq_right (by omega), Int.min_eq_right (h2 (by omega))]
theorem led_sc {w : Int} (h : 0 < w) : ∀ (L T : List Int) (r x : Int), led (w * r) (L.map (w * ·)) (T.map (w * ·)) (w * x) = w * led r L T x
  | [], T, r, x => by unfold led; rfl
  | _ :: _, [], r, x => by unfold led; rfl
  | l :: L, t :: T, r, x => by
    rw [List.map_cons, List.map_cons]
    unfold led
    rw [← led_sc h L T l, mul_min h, mul_max h, mul_min h, Int.mul_add, Int.mul_zero]
theorem shf_sc {w : Int} (h : 0 < w) (s l m : Int) : shf (w * s) (w * l) (w * m) = w * shf s l m := by
  unfold shf
  by_cases c : l < m
  · rw [if_pos c, if_pos (Int.mul_lt_mul_of_pos_left c h)]
  · rw [if_neg c, if_neg (by
      have : w * m ≤ w * l := Int.mul_le_mul_of_nonneg_left (by omega) (by omega)
      omega), Int.mul_zero]
theorem sum_sc (w : Int) : ∀ T : List Int, (T.map (w * ·)).sum = w * T.sum
  | [] => by rw [List.map_nil, List.sum_nil, Int.mul_zero]
  | t :: T => by rw [List.map_cons, List.sum_cons, List.sum_cons, sum_sc w T, Int.mul_add]
theorem eff_sc {w : Int} (h : 0 < w) (r : Int) (L T : List Int) : eff (w * r) (L.map (w * ·)) (T.map (w * ·)) = sc w (eff r L T) := by
  have h0 := led_sc h L T r 0
  rw [Int.mul_zero] at h0
  have h1 := led_sc h L T r r
  unfold eff sc
  rw [h0, h1, sum_sc, shf_sc h]
theorem effC_sc {w : Int} (h : 0 < w) (r : Int) (T : List Int) : effC (w * r) (T.map (w * ·)) = sc w (effC r T) := by
  unfold effC
  rw [← eff_sc h]
  congr 1
  unfold cr
  rw [List.map_replicate, List.length_map]
theorem app_sc {w : Int} (h : 0 < w) (e : E3) (x : Int) : app (sc w e) (w * x) = w * app e x := by
  show max (w * e.l) (min (w * e.h) (w * x + w * e.s)) = _
  unfold app
  rw [mul_max h, mul_min h, Int.mul_add]
theorem join_sc {w : Int} (h : 0 < w) (a b : E3) : joinE (sc w a) (sc w b) = sc w (joinE a b) := by
  show (⟨shf (w * a.s + w * b.s) (app (sc w b) (w * a.l)) (app (sc w b) (w * a.h)), app (sc w b) (w * a.l), app (sc w b) (w * a.h)⟩ : E3) = ⟨w * shf (a.s + b.s) (app b a.l) (app b a.h), w * app b a.l, w * app b a.h⟩
  rw [app_sc h, app_sc h, ← Int.mul_add, shf_sc h]
theorem id_sc (w r : Int) : idE (w * r) = sc w (idE r) := by
  show (⟨0, 0, w * r⟩ : E3) = ⟨w * 0, w * 0, w * r⟩
  rw [Int.mul_zero]
theorem pw_sc {w : Int} (h : 0 < w) (r : Int) (e : E3) : ∀ n, pw (w * r) (sc w e) n = sc w (pw r e n)
  | 0 => id_sc w r
  | n + 1 => by
    show joinE (pw (w * r) (sc w e) n) (sc w e) = sc w (joinE (pw r e n) e)
    rw [pw_sc h r e n, join_sc h]
theorem V_sc {w r : Int} (h : 0 < w) {e : E3} (v : Va r e) : Va (w * r) (sc w e) := by
  have m : ∀ {a b : Int}, a ≤ b → w * a ≤ w * b := fun z => Int.mul_le_mul_of_nonneg_left z (by omega)
  have z := m v.l0
  have z2 := m v.r0
  rw [Int.mul_zero] at z z2
  refine ⟨z2, z, m v.lh, m v.hr, fun c => ?_, fun c => ?_⟩
  · have c' : e.l < e.h := by
      have c'' : w * e.l < w * e.h := c
      by_cases d : e.l < e.h
      · exact d
      · have := m (show e.h ≤ e.l by omega); omega
    have p := v.s0 c'
    have p1 := m p.1
    rw [Int.mul_sub] at p1
    exact ⟨p1, m p.2⟩
  · have c'' : w * e.l = w * e.h := c
    have : e.l = e.h := by
      have := v.lh
      by_cases d : e.l < e.h
      · have := Int.mul_lt_mul_of_pos_left d h; omega
      · omega
    show w * e.s = 0
    rw [v.s1 this, Int.mul_zero]
/-! ### small steps -/
theorem join_mk (s l h s2 l2 h2 : Int) : joinE ⟨s, l, h⟩ ⟨s2, l2, h2⟩ = ⟨shf (s + s2) (max l2 (min h2 (l + s2))) (max l2 (min h2 (h + s2))), max l2 (min h2 (l + s2)), max l2 (min h2 (h + s2))⟩ := rfl
theorem shf_lt {s l h : Int} (c : l < h) : shf s l h = s := if_pos c
theorem shf_ge {s l h : Int} (c : ¬ l < h) : shf s l h = 0 := if_neg c
theorem pw_down {far by_ : Int} (h0 : 0 < far) (h1 : 1 ≤ by_) (h2 : by_ ≤ far) : ∀ n : Nat, pw far ⟨by_, by_, far⟩ n = if by_ * (n : Int) < far then ⟨by_ * n, by_ * n, far⟩ else ⟨0, far, far⟩
  | 0 => by
    rw [if_pos (by show by_ * 0 < far; rw [Int.mul_zero]; exact h0)]
    show (⟨0, 0, far⟩ : E3) = ⟨by_ * 0, by_ * 0, far⟩
    rw [Int.mul_zero]
  | n + 1 => by
    show joinE (pw far ⟨by_, by_, far⟩ n) ⟨by_, by_, far⟩ = _
    rw [pw_down h0 h1 h2 n]
    have e : by_ * ((n + 1 : Nat) : Int) = by_ * (n : Int) + by_ := by rw [Int.natCast_add, Int.mul_add]; simp
    have pz : 0 ≤ by_ * (n : Int) := Int.mul_nonneg (by omega) (by omega)
    rw [e]
    generalize by_ * (n : Int) = p at *
    have hf : max by_ (min far (far + by_)) = far := by omega
    by_cases c : p < far
    · rw [if_pos c, join_mk, hf]
      by_cases d : p + by_ < far
      · rw [if_pos d, show max by_ (min far (p + by_)) = p + by_ by omega, shf_lt d]
      · rw [if_neg d, show max by_ (min far (p + by_)) = far by omega, shf_ge (by omega)]
    · rw [if_neg c, if_neg (by omega), join_mk, hf, shf_ge (by omega)]
theorem pw_up {far by_ : Int} (h0 : 0 < far) (h1 : 1 ≤ by_) (h2 : by_ ≤ far) : ∀ n : Nat, pw far ⟨0 - by_, 0, far - by_⟩ n = if by_ * (n : Int) < far then ⟨0 - by_ * n, 0, far - by_ * n⟩ else ⟨0, 0, 0⟩
  | 0 => by
    rw [if_pos (by show by_ * 0 < far; rw [Int.mul_zero]; exact h0)]
    show (⟨0, 0, far⟩ : E3) = ⟨0 - by_ * 0, 0, far - by_ * 0⟩
    rw [Int.mul_zero, Int.sub_zero, Int.sub_zero]
  | n + 1 => by
    show joinE (pw far ⟨0 - by_, 0, far - by_⟩ n) ⟨0 - by_, 0, far - by_⟩ = _
    rw [pw_up h0 h1 h2 n]
    have e : by_ * ((n + 1 : Nat) : Int) = by_ * (n : Int) + by_ := by rw [Int.natCast_add, Int.mul_add]; simp
    have pz : 0 ≤ by_ * (n : Int) := Int.mul_nonneg (by omega) (by omega)
    rw [e]
    generalize by_ * (n : Int) = p at *
    have hf : max 0 (min (far - by_) (0 + (0 - by_))) = 0 := by omega
    by_cases c : p < far
    · rw [if_pos c, join_mk, hf]
      by_cases d : p + by_ < far
      · rw [if_pos d, show max 0 (min (far - by_) (far - p + (0 - by_))) = far - (p + by_) by omega, shf_lt (by omega)]
        congr 1
        omega
      · rw [if_neg d, show max 0 (min (far - by_) (far - p + (0 - by_))) = 0 by omega, shf_ge (by omega)]
    · rw [if_neg c, if_neg (by omega), join_mk, hf, shf_ge (by omega)]
end Te
namespace Te
theorem Va_iff {r : Int} {e : E3} (r0 : 0 ≤ r) : Va r e ↔ (0 ≤ e.l ∧ e.l ≤ e.h ∧ e.h ≤ r) ∧ (if e.l < e.h then e.h - r ≤ e.s ∧ e.s ≤ e.l else e.s = 0) := by
  constructor
  · intro v
    refine ⟨⟨v.l0, v.lh, v.hr⟩, ?_⟩
    split
    · rename_i c; exact v.s0 c
    · rename_i c; exact v.s1 (by have := v.lh; omega)
  · rintro ⟨⟨h1, h2, h3⟩, h4⟩
    refine ⟨r0, h1, h2, h3, fun c => ?_, fun c => ?_⟩
    · rw [if_pos c] at h4; exact h4
    · rw [if_neg (by omega)] at h4; exact h4
end Te
local macro_rules | `(tactic| walk_at "nm") => `(tactic| with_unfolding_all first
  | refine Lw.e_name 0 (q := ?_) | refine Lw.e_name 1 (q := ?_) | refine Lw.e_name 2 (q := ?_) | refine Lw.e_name 3 (q := ?_) | refine Lw.e_name 4 (q := ?_) | refine Lw.e_name 5 (q := ?_) | refine Lw.e_name 6 (q := ?_) | refine Lw.e_name 7 (q := ?_) | refine Lw.e_name 8 (q := ?_) | refine Lw.e_name 9 (q := ?_) | refine Lw.e_name 10 (q := ?_) | refine Lw.e_name 11 (q := ?_) | refine Lw.e_name 12 (q := ?_))
local macro_rules | `(tactic| walk_at "ii") => `(tactic| refine ⟨_, _, rfl, rfl, ?_⟩)
local macro_rules | `(tactic| walk_at "e") => `(tactic| first
  | walk_at "nm" | refine Lw.e_int ?_ | refine Lw.e_non ?_ | refine Lw.e_bl ?_ | refine Lw.e_str ?_
  | refine Lw.a_nil ?_ | refine Lw.a_cons (h := ?_) | refine Lw.k_nil ?_ | refine Lw.k_cons ?_
  | refine Lw.e_if ?_ | refine Lw.e_and ?_ | refine Lw.e_or ?_ | refine Lw.e_one ?_ | refine Lw.e_not ?_ | refine Lw.e_lst ?_ | refine Lw.e_tup ?_ | refine Lw.e_neg ?_)
local macro_rules | `(tactic| walk_at "E") => `(tactic| repeat walk_at "e")
namespace K35
open PySem L2 Evl Lw
def top (i : Nat) : Stmt := PySem.Challenge.pw_listwindow_k35_effects_on_all_scrolls.main.body.getD i (.Pass ⟨0, 0, 0, 0⟩)
abbrev s_wi : Stmt := inClass (top 1) 0
abbrev s_cn : Stmt := top 5
abbrev s_mt : Stmt := top 7
abbrev s_ct : Stmt := top 9
abbrev s_on : Stmt := top 10
abbrev s_eo : Stmt := top 11
abbrev s_st : Stmt := top 12
abbrev s_je : Stmt := top 13
abbrev s_ce : Stmt := top 14
abbrev s_jo : Stmt := top 15
abbrev s_lt : Stmt := top 16
abbrev s_re : Stmt := top 17
abbrev s_et : Stmt := top 18
abbrev s_jug : Stmt := top 20
abbrev s_pour : Stmt := top 21
abbrev s_turns : Stmt := top 22
abbrev s_led : Stmt := top 23
abbrev s_ise : Stmt := top 24
abbrev s_tim : Stmt := top 25
abbrev s_sr : Stmt := top 26
abbrev s_rr : Stmt := top 27
abbrev s_gr : Stmt := top 28
abbrev s_er : Stmt := top 29
abbrev s_tr : Stmt := top 30
abbrev s_any : Stmt := top 31
abbrev s_ref : Stmt := top 32
abbrev s_err : Stmt := top 33
abbrev s_law : Stmt := top 34
end K35
namespace K35
open PySem L2 Evl Lw
open Te
/-! ### effects as data -/
instance : Dat E3 where
  toD t := .tuple [.int t.s, .int t.l, .int t.h]
  lay o := by simp only [PyData.canLay0, PyData.canLayAll0, Bool.and_self]
  eqv d e := by
    simp only [PyData.eqv, PyData.eqvAll]
    rw [beq_dec, beq_dec, beq_dec, Bool.and_true, ← Bool.decide_and, ← Bool.decide_and]
    exact decide_eq_decide.mpr ⟨fun h => by cases d; cases e; simp only at h; obtain ⟨h1, h2, h3⟩ := h; subst h1; subst h2; subst h3; rfl, fun h => by cases h; exact ⟨rfl, rfl, rfl⟩⟩
  dep := 1
  dep_le d := by simp [PyData.depth, PyData.depthAll]
section
variable {K : PySem.W.Frag} {B : Hp} {v : V}
theorem dtE3 {a : Addr} {x y z : Int} (h : SqT K B a [.int x, .int y, .int z]) : Dt K B (.ref a) (⟨x, y, z⟩ : E3) := Dp.tup h (.cons (.int _) (.cons (.int _) (.cons (.int _) .nil)))
theorem dtE {a : Addr} {e : E3} (h : SqT K B a [.int e.s, .int e.l, .int e.h]) : Dt K B (.ref a) e := dtE3 h
theorem dt_e3 {e : E3} (h : Dt K B v e) : ∃ a, v = .ref a ∧ SqT K B a [.int e.s, .int e.l, .int e.h] := by
  unfold Dt at h
  cases h with
  | tup h1 h2 =>
    cases h2 with
    | cons a b =>
      cases b with
      | cons c d =>
        cases d with
        | cons e f =>
          cases f
          cases a
          cases c
          cases e
          exact ⟨_, rfl, h1⟩
theorem dt_ints {l : List Int} (h : Dt K B v l) : ∃ a, v = .ref a ∧ SqL K B a (l.map V.int) := by
  obtain ⟨a, vs, e, hL, hA⟩ := dt_list h
  exact ⟨a, e, hA.ints ▸ hL⟩
theorem dtLI {a : Addr} {l : List Int} (h : SqL K B a (l.map V.int)) : Dt K B (.ref a) l := dtL h das_ints
end
/-- an error with a value -/
def RaiV (C : Addr) (H : Hp) (E : XK) (v : V) : Prop := ∀ d H', Ex H H' → H d = none → H' d = some (xv v) → E (.ref C) (some d) H'
section
variable {P : Program} {w : World} {K : PySem.W.Frag} {mg : Str → Option Value} {base : Heap} {C CV : Addr}
/-! WindowError.__init__ -/
theorem sc_wi : FnScope ["self", "value"] ["self", "value"] (defScope s_wi) := ⟨rfl, rfl, rfl, by decide +kernel, rfl, by decide +kernel, by decide +kernel⟩
theorem ok_wi {f : Addr} {fd : FuncData} (F : Fun K "__init__" "WindowError.__init__" s_wi f fd) : FnOk P w K mg base CX0 1 f fd ["self", "value"] (sp_wi K) := by
  refine F.ok sc_wi (fun vs H Q E h => by obtain ⟨_, _, _, rfl, _⟩ := h; rfl) (fun cdv A outer s H vs Q E hr h => ?_)
  obtain ⟨a, C', v, rfl, ox, nv, ha, k⟩ := h
  refine s_one (s_ost (h := ?_))
  show Lw.WE _ _ _ _ _
  walk_at "E"
  exact ⟨a, C', rfl, ox, nv, .inl ⟨ha, k⟩⟩
/-! check_number -/
theorem sc_cn : FnScope ["number"] ["number"] (defScope s_cn) := ⟨rfl, rfl, rfl, by decide +kernel, rfl, by decide +kernel, by decide +kernel⟩
def sp_cn (C : Addr) : Sp := fun vs H Q E => ∃ n : Int, vs = [.int n] ∧ (0 ≤ n → Q .non H) ∧ (n < 0 → Rai C H E n)
theorem ok_cn (T : ExC P w K mg base "InvalidNumber" C) : ∀ f fd, Fun K "check_number" "check_number" s_cn f fd → FnOk P w K mg base (L2.CX P w) 3 f fd ["number"] (sp_cn C) := by
  refine okX_of sc_cn (fun vs H Q E h => by obtain ⟨n, rfl, _⟩ := h; rfl) (fun f cdv A outer s H vs Q E hr h tk po => ?_)
  obtain ⟨n, rfl, h0, h1⟩ := h
  refine s_one (s_if (t_cmp op_lt (h := ?_)))
  walk_at "E"
  refine ⟨_, _, rfl, rfl, _, rfl, ifd (fun h => ?_) fun h => s_nil (h0 (by omega))⟩
  refine s_one (s_raiseO T tk (hr.mono (by decide)) (h := ?_))
  walk_at "E"
  exact fun d H' e _ hd hx => h1 h d H' e hd hx
/-! _clipped_to -/
def clipF (room x : Int) : Int := max (min x room) 0
theorem sc_ct : FnScope ["room", "scroll"] ["room", "scroll"] (defScope s_ct) := ⟨rfl, rfl, rfl, by decide +kernel, rfl, by decide +kernel, by decide +kernel⟩
def sp_ct : Sp := fun vs H Q _ => ∃ r x : Int, vs = [.int r, .int x] ∧ Q (.int (clipF r x)) H
theorem ok_ct (mm : mg "max" = none) (mi : mg "min" = none) : ∀ f fd, Fun K "_clipped_to" "_clipped_to" s_ct f fd → FnOk P w K mg base CX0 1 f fd ["room", "scroll"] sp_ct := by
  refine ok_of sc_ct (fun vs H Q E h => by obtain ⟨_, _, rfl, _⟩ := h; rfl) (fun f cdv A outer s H vs Q E hr h => ?_)
  obtain ⟨r, x, rfl, k⟩ := h
  refine s_one (s_ret (e_blt (call_max2 rfl) mm (by decide +kernel) (a_cons (h := e_blt (call_min2 rfl) mi (by decide +kernel) ?_))))
  walk_at "E"
  refine ⟨_, _, rfl, ?_⟩
  walk_at "E"
  refine ⟨_, _, rfl, ?_⟩
  rw [py_max, py_min]
  exact k
/-! _shift_told -/
theorem sc_st : FnScope ["shift", "low", "high"] ["shift", "low", "high"] (defScope s_st) := ⟨rfl, rfl, rfl, by decide +kernel, rfl, by decide +kernel, by decide +kernel⟩
def sp_st : Sp := fun vs H Q _ => ∃ s l h : Int, vs = [.int s, .int l, .int h] ∧ Q (.int (shf s l h)) H
theorem ok_st : ∀ f fd, Fun K "_shift_told" "_shift_told" s_st f fd → FnOk P w K mg base CX0 1 f fd ["shift", "low", "high"] sp_st := by
  refine ok_of sc_st (fun vs H Q E h => by obtain ⟨_, _, _, rfl, _⟩ := h; rfl) (fun f cdv A outer s0 H vs Q E hr h => ?_)
  obtain ⟨s, l, h, rfl, k⟩ := h
  refine s_one (s_ret (e_if (t_cmp op_lt (h := ?_))))
  walk_at "E"
  refine ⟨_, _, rfl, rfl, _, rfl, ifd (fun c => ?_) fun c => ?_⟩
  · walk_at "E"
    rw [shf_lt c] at k
    exact k
  · walk_at "E"
    rw [shf_ge c] at k
    exact k
/-! led_to -/
theorem sc_lt : FnScope ["effect", "scroll", "shift", "low", "high"] ["effect", "scroll"] (defScope s_lt) := ⟨rfl, rfl, rfl, by decide +kernel, rfl, by decide +kernel, by decide +kernel⟩
def sp_lt (K : PySem.W.Frag) : Sp := fun vs H Q _ => ∃ (B : Hp) (v : V) (e : E3) (x : Int), vs = [v, .int x] ∧ Ex B H ∧ Dt K B v e ∧ Q (.int (app e x)) H
theorem ok_lt (mm : mg "max" = none) (mi : mg "min" = none) : ∀ f fd, Fun K "led_to" "led_to" s_lt f fd → FnOk P w K mg base CX0 1 f fd ["effect", "scroll"] (sp_lt K) := by
  refine ok_of sc_lt (fun vs H Q E h => by obtain ⟨_, _, _, _, rfl, _⟩ := h; rfl) (fun f cdv A outer s H vs Q E hr h => ?_)
  obtain ⟨B, v, e, x, rfl, kB, hd, k⟩ := h
  obtain ⟨a, rfl, hT⟩ := dt_e3 hd
  refine s_cons (s_asg (h := ?_))
  walk_at "E"
  refine g_tup (ex_t kB hT) rfl (h := gs_cons (h := g_name 2 sc_lt.nd (q := gs_cons (h := g_name 3 sc_lt.nd (q := gs_cons (h := g_name 4 sc_lt.nd (q := gs_nil ?_)))))))
  refine s_one (s_ret (e_blt (call_max2 rfl) mm (by decide +kernel) (a_cons (h := ?_))))
  walk_at "E"
  refine e_blt (call_min2 rfl) mi (by decide +kernel) ?_
  walk_at "E"
  refine e_add (h := ?_)
  walk_at "E"
  walk_at "ii"
  walk_at "E"
  refine ⟨_, _, rfl, ?_⟩
  walk_at "E"
  refine ⟨_, _, rfl, ?_⟩
  rw [py_max, py_min]
  exact k
end
end K35
namespace K35
open PySem L2 Evl Lw
open Te
section
variable {P : Program} {w : World} {K : PySem.W.Frag} {mg : Str → Option Value} {base : Heap} {C CV : Addr}
/-! _joined -/
theorem sc_jo : FnScope ["one", "other", "shift", "low", "high", "least", "greatest"] ["one", "other"] (defScope s_jo) := ⟨rfl, rfl, rfl, by decide +kernel, rfl, by decide +kernel, by decide +kernel⟩
def sp_jo (K : PySem.W.Frag) : Sp := fun vs H Q _ => ∃ (B : Hp) (v v2 : V) (a b : E3), vs = [v, v2] ∧ Ex B H ∧ Dt K B v a ∧ Dt K B v2 b ∧ RetD K B H Q (joinE a b)
theorem ok_jo (e1 : Cal P w K mg base "led_to" 1 ["effect", "scroll"] (sp_lt K)) (e2 : Cal P w K mg base "_shift_told" 1 ["shift", "low", "high"] sp_st) : ∀ f fd, Fun K "_joined" "_joined" s_jo f fd → FnOk P w K mg base CX0 2 f fd ["one", "other"] (sp_jo K) := by
  refine ok_of sc_jo (fun vs H Q E h => by obtain ⟨_, _, _, _, _, rfl, _⟩ := h; rfl) (fun f cdv A outer s H vs Q E hr h => ?_)
  obtain ⟨B, v, v2, x, y, rfl, kB, hd, hd2, k⟩ := h
  obtain ⟨a, rfl, hT⟩ := dt_e3 hd
  obtain ⟨b, rfl, hT2⟩ := dt_e3 hd2
  refine s_cons (s_asg (h := ?_))
  walk_at "E"
  refine g_tup (ex_t kB hT) rfl (h := gs_cons (h := g_name 2 sc_jo.nd (q := gs_cons (h := g_name 3 sc_jo.nd (q := gs_cons (h := g_name 4 sc_jo.nd (q := gs_nil ?_)))))))
  refine s_cons (s_par 5 6 sc_jo.nd (h := a_cons (h := e_call e1 hr (h := ?_))))
  walk_at "E"
  refine ⟨B, _, y, x.l, rfl, kB, hd2, ?_⟩
  refine a_cons (h := e_call e1 hr (h := ?_))
  walk_at "E"
  refine ⟨B, _, y, x.h, rfl, kB, hd2, a_nil ⟨_, _, rfl, ?_⟩⟩
  refine s_one (s_ret (e_tup (a_cons (h := e_call e2 hr (h := a_cons (h := e_add (h := ?_))))))) 
  walk_at "E"
  refine e_ixT (h := ?_)
  walk_at "E"
  refine ⟨b, _, 0, _, rfl, rfl, ex_t kB hT2, rfl, ?_⟩
  walk_at "ii"
  walk_at "E"
  refine ⟨_, _, _, rfl, ?_⟩
  walk_at "E"
  refine ⟨by show 3 ≤ sizeLine; decide, fun p hp => ?_⟩
  exact k _ _ _ ((Gr.refl kB).new hp) (dtE (e := joinE x y) (SqT.of upd_same))
/-! _effect_of -/
abbrev N_eo : List Str := ["later", "size", "turns", "low", "high", "room", "turn", "size_then"]
theorem sc_eo : FnScope N_eo ["later", "size", "turns"] (defScope s_eo) := ⟨rfl, rfl, rfl, by decide +kernel, rfl, by decide +kernel, by decide +kernel⟩
def sp_eo (K : PySem.W.Frag) : Sp := fun vs H Q _ => ∃ (B : Hp) (v v2 : V) (r : Int) (L T : List Int), vs = [v, .int r, v2] ∧ Ex B H ∧ Dt K B v L ∧ Dt K B v2 T ∧ L.length = T.length ∧ RetD K B H Q (eff r L T)
theorem drop_eq {xs : List Int} {i : Nat} {x : Int} (h : xs[i]? = some x) : xs.drop i = x :: xs.drop (i + 1) := by
  obtain ⟨hi, e⟩ := List.getElem?_eq_some_iff.mp h
  rw [List.drop_eq_getElem_cons hi, e]
theorem led_step {r low : Int} {L T : List Int} {i : Nat} {l t : Int} (hl : L[i]? = some l) (ht : T[i]? = some t) : led r (L.drop i) (T.drop i) low = led l (L.drop (i + 1)) (T.drop (i + 1)) (min (clipF r (low + t)) l) := by
  rw [drop_eq hl, drop_eq ht]
  show led l (L.drop (i + 1)) (T.drop (i + 1)) (min l (max 0 (min r (low + t)))) = _
  congr 1
  unfold clipF
  omega
theorem ok_eo (mz : mg "zip" = none) (mi : mg "min" = none) (ms : mg "sum" = none) (e1 : Cal P w K mg base "_clipped_to" 1 ["room", "scroll"] sp_ct) (e2 : Cal P w K mg base "_shift_told" 1 ["shift", "low", "high"] sp_st) :
    ∀ f fd, Fun K "_effect_of" "_effect_of" s_eo f fd → FnOk P w K mg base CX0 2 f fd ["later", "size", "turns"] (sp_eo K) := by
  refine ok_of sc_eo (fun vs H Q E h => by obtain ⟨_, _, _, _, _, _, rfl, _⟩ := h; rfl) (fun f cdv A outer s H vs Q E hr h => ?_)
  obtain ⟨B, v, v2, r, L, T, rfl, kB, hd, hd2, hlen, k⟩ := h
  obtain ⟨a, rfl, hL⟩ := dt_ints hd
  obtain ⟨b, rfl, hT⟩ := dt_ints hd2
  refine s_cons (s_set 3 sc_eo.nd (h := ?_))
  walk_at "E"
  refine s_cons (s_set 4 sc_eo.nd (h := ?_))
  walk_at "E"
  refine s_cons (s_set 5 sc_eo.nd (h := ?_))
  walk_at "E"
  refine s_cons (s_for (h := i_zip mz (h := ?_)))
  walk_at "E"
  refine ⟨_, _, _, _, rfl, ex_l kB hT, ex_l kB hL, for_it (walk_zip (n := T.length) (by rw [List.length_map, List.length_map]; omega))
    (fun i σ H' => Gr M0 B H B H' ∧ ∃ (room low high : Int) (u1 u2 : Option V), σ = [some (.ref a), some (.int r), some (.ref b), some (.int low), some (.int high), some (.int room), u1, u2] ∧ led room (L.drop i) (T.drop i) low = led r L T 0 ∧ led room (L.drop i) (T.drop i) high = led r L T r)
    ⟨Gr.refl kB, r, 0, r, none, none, rfl, rfl, rfl⟩ (fun i σ H' _ ⟨e, _⟩ => ⟨ex_l e.k hT, ex_l e.k hL⟩) ?_ ?_⟩
  · rintro i x σ H1 H2 hi ⟨g, room, low, high, u1, u2, rfl, e0, er⟩ ⟨Z, x, y, rfl, hZ, rfl, hx, hy⟩
    have g1 : Gr M0 B H B (upd H1 Z (.tup [x, y])) := g.own hZ
    have hx : (T.map V.int)[i]? = some x := hx
    have hy : (L.map V.int)[i]? = some y := hy
    rw [List.getElem?_map] at hx hy
    cases ht : T[i]? with
    | none => rw [ht] at hx; cases hx
    | some t =>
      cases hl : L[i]? with
      | none => rw [hl] at hy; cases hy
      | some l =>
        rw [ht] at hx
        rw [hl] at hy
        cases hx
        cases hy
        refine g_tup (SqT.of upd_same) rfl (h := gs_cons (h := g_name 6 sc_eo.nd (q := gs_cons (h := g_name 7 sc_eo.nd (q := gs_nil ?_)))))
        generalize upd H1 Z (HO.tup [V.int t, V.int l]) = H3 at *
        refine s_cons (s_set 3 sc_eo.nd (h := e_blt (call_min2 rfl) mi (by decide +kernel) (a_cons (h := e_call e1 hr (h := ?_)))))
        walk_at "E"
        refine e_add (h := ?_)
        walk_at "E"
        walk_at "ii"
        walk_at "E"
        refine ⟨_, _, rfl, ?_⟩
        walk_at "E"
        refine ⟨_, _, rfl, ?_⟩
        rw [py_min]
        refine s_cons (s_set 4 sc_eo.nd (h := e_blt (call_min2 rfl) mi (by decide +kernel) (a_cons (h := e_call e1 hr (h := ?_)))))
        walk_at "E"
        refine e_add (h := ?_)
        walk_at "E"
        walk_at "ii"
        walk_at "E"
        refine ⟨_, _, rfl, ?_⟩
        walk_at "E"
        refine ⟨_, _, rfl, ?_⟩
        rw [py_min]
        refine s_one (s_set 5 sc_eo.nd (h := ?_))
        walk_at "E"
        exact ⟨g1, l, _, _, _, _, rfl, by rw [← e0, led_step hl ht], by rw [← er, led_step hl ht]⟩
  rintro σ H' ⟨g, room, low, high, u1, u2, rfl, e0, er⟩
  have hT0 : T.drop T.length = [] := List.drop_length
  have hL0 : L.drop T.length = [] := by rw [← hlen]; exact List.drop_length
  rw [hT0, hL0] at e0 er
  have e0' : low = led r L T 0 := e0
  have er' : high = led r L T r := er
  refine s_one (s_ret (e_tup (a_cons (h := e_call e2 hr (h := a_cons (h := e_blt (cr_sum rfl) ms (by decide +kernel) (a_cons (h := ?_)))))))) 
  walk_at "E"
  refine ⟨_, _, rfl, ex_l g.k hT, ?_⟩
  walk_at "E"
  refine ⟨_, _, _, rfl, ?_⟩
  walk_at "E"
  refine ⟨by show 3 ≤ sizeLine; decide, fun p hp => ?_⟩
  refine k _ _ _ (g.new hp) ?_
  rw [e0', er']
  exact dtE (e := eff r L T) (SqT.of upd_same)
end
end K35
namespace K35
open PySem L2 Evl Lw
open Te
section
variable {P : Program} {w : World} {K : PySem.W.Frag} {mg : Str → Option Value} {base : Heap} {C CV : Addr}
/-! many_times -/
abbrev N_mt : List Str := ["one", "times", "none", "joined", "made", "power", "left"]
theorem sc_mt : FnScope N_mt ["one", "times", "none", "joined"] (defScope s_mt) := ⟨rfl, rfl, rfl, by decide +kernel, rfl, by decide +kernel, by decide +kernel⟩
def sp_mt (P : Program) (w : World) (K : PySem.W.Frag) (mg : Str → Option Value) (base : Heap) : Sp := fun vs H Q _ => ∃ (B : Hp) (v v2 : V) (f : Addr) (r : Int) (e : E3) (n : Int), vs = [v, .int n, v2, .ref f] ∧ HeldD P w K mg base f 2 ["one", "other"] (sp_jo K) ∧ Ex B H ∧ Dt K B v e ∧ Dt K B v2 (idE r) ∧ Va r e ∧ 0 ≤ n ∧ RetD K B H Q (pw r e n.toNat)
def muM (σ : L2.St) (_ : Hp) : Nat := match σ with | [_, _, _, _, _, _, some (.int n)] => n.toNat | _ => 0
theorem half_lt {n : Int} (h : 0 < n) : (n / 2).toNat < n.toNat := by omega
theorem ok_mt : ∀ f fd, Fun K "many_times" "many_times" s_mt f fd → FnOk P w K mg base CX0 3 f fd ["one", "times", "none", "joined"] (sp_mt P w K mg base) := by
  refine ok_of sc_mt (fun vs H Q E h => by obtain ⟨_, _, _, _, _, _, _, rfl, _⟩ := h; rfl) (fun f0 cdv A outer s H vs Q E hr h => ?_)
  obtain ⟨B, v, v2, f, r, e, n, rfl, hf, kB, hd, hd2, ve, hn, k⟩ := h
  refine s_cons (s_set 4 sc_mt.nd (h := ?_))
  walk_at "E"
  refine s_cons (s_set 5 sc_mt.nd (h := ?_))
  walk_at "E"
  refine s_cons (s_set 6 sc_mt.nd (h := ?_))
  walk_at "E"
  refine s_cons (s_while (fun σ H' => ∃ (B1 : Hp) (a b : V) (m p : E3) (l : Int), σ = [some v, some (.int n), some v2, some (.ref f), some a, some b, some (.int l)] ∧ Gr M0 B H B1 H' ∧ Dt K B1 a m ∧ Dt K B1 b p ∧ Va r m ∧ Va r p ∧ 0 ≤ l ∧ joinE m (pw r p l.toNat) = pw r e n.toNat)
    muM ⟨B, v2, v, idE r, e, n, rfl, Gr.refl kB, hd2, hd, id_V ve.r0, ve, hn, id_join (pw_V ve _)⟩ ?_)
  rintro σ H' ⟨B1, a, b, m, p, l, rfl, g, da, db, vm, vp, l0, hj⟩
  refine t_cmp op_gt (h := ?_)
  walk_at "E"
  refine ⟨_, _, rfl, rfl, _, rfl, ifd (fun c => ?_) fun c => ?_⟩
  · obtain ⟨m2, hm2⟩ : ∃ m2, m2 = (if l.toNat % 2 = 1 then joinE m p else m) := ⟨_, rfl⟩
    have vm2 : Va r m2 := by rw [hm2]; split; exact join_V vm vp; exact vm
    have last : ∀ {D' : Ends} (B2 H2 : Hp) (a' : V), Gr M0 B H B2 H2 → Dt K B2 a' m2 → Dt K B2 b p →
        (∀ (B3 H3 : Hp) (b' : V), Gr M0 B H B3 H3 → Dt K B3 a' m2 → Dt K B3 b' (joinE p p) → D'.nx [some v, some (.int n), some v2, some (.ref f), some a', some b', some (.int (l / 2))] H3) →
        WSs (cxOf CX0 P w K mg base N_mt "many_times" (defScope s_mt) f0 cdv A outer s H E).nox (match (defBody s_mt).getD 3 (.Pass ⟨0, 0, 0, 0⟩) with | .While _ b _ _ => b.drop 1 | _ => []) D' [some v, some (.int n), some v2, some (.ref f), some a', some b, some (.int l)] H2 := by
      intro D' B2 H2 a' g2 da2 db2 q
      refine s_cons (s_set 5 sc_mt.nd (h := e_callL 3 hf hr (h := ⟨rfl, ?_⟩)))
      walk_at "E"
      refine ⟨B2, b, b, p, p, rfl, g2.k, db2, db2, fun b' B3 H3 g3 db3 => ?_⟩
      refine s_one (s_augFdiv 6 sc_mt.nd (h := ⟨_, rfl, ?_⟩))
      walk_at "E"
      exact ⟨_, _, rfl, rfl, ⟨by decide, by decide⟩, q B3 H3 b' (g2.trans g3) (da2.mono g3.b) db3⟩
    have fin : ∀ (B3 H3 : Hp) (a' b' : V), Gr M0 B H B3 H3 → Dt K B3 a' m2 → Dt K B3 b' (joinE p p) → (∃ (B1 : Hp) (a b : V) (m p : E3) (l_1 : Int), [some v, some (.int n), some v2, some (.ref f), some a', some b', some (.int (l / 2))] = [some v, some (.int n), some v2, some (.ref f), some a, some b, some (.int l_1)] ∧ Gr M0 B H B1 H3 ∧ Dt K B1 a m ∧ Dt K B1 b p ∧ Va r m ∧ Va r p ∧ 0 ≤ l_1 ∧ joinE m (pw r p l_1.toNat) = pw r e n.toNat) := fun B3 H3 a' b' g3 da3 db3 =>
      ⟨B3, a', b', m2, joinE p p, l / 2, rfl, g3, da3, db3, vm2, join_V vp vp, by omega, by rw [← hj, hm2, ← pw_half vm vp, show (l / 2).toNat = l.toNat / 2 by omega]⟩
    refine s_cons (s_if (t_cmp op_eq (h := e_mod (h := ?_))))
    walk_at "E"
    refine ⟨_, _, rfl, rfl, by decide, ?_⟩
    walk_at "E"
    refine ⟨rfl, _, rfl, ifd (fun d => ?_) fun d => ?_⟩
    · refine s_one (s_set 4 sc_mt.nd (h := e_callL 3 hf hr (h := ⟨rfl, ?_⟩)))
      walk_at "E"
      refine ⟨B1, a, b, m, p, rfl, g.k, da, db, fun a' B2 H2 g2 da2 => ?_⟩
      have d' : l % 2 = 1 := by simpa using d
      rw [if_pos (by omega)] at hm2
      rw [← hm2] at da2
      exact last B2 H2 a' (g.trans g2) da2 (db.mono g2.b) fun B3 H3 b' g3 da3 db3 => ⟨fin B3 H3 a' b' g3 da3 db3, half_lt c⟩
    · have d' : ¬ l % 2 = 1 := by simpa using d
      rw [if_neg (by omega)] at hm2
      rw [← hm2] at da
      exact s_nil (last B1 H' a g da db fun B3 H3 b' g3 da3 db3 => ⟨fin B3 H3 a b' g3 da3 db3, half_lt c⟩)
  · refine s_one (s_ret ?_)
    walk_at "E"
    have l1 : l = 0 := by omega
    subst l1
    refine k _ _ _ g ?_
    rw [← hj]
    show Dt K B1 a (joinE m (idE r))
    rw [join_id vm]
    exact da
end
end K35
namespace K35
open PySem L2 Evl Lw
open Te
section
variable {P : Program} {w : World} {K : PySem.W.Frag} {mg : Str → Option Value} {base : Heap} {C CV : Addr}
/-! effect_on -/
abbrev N_on : List Str := ["size", "turns", "_"]
theorem sc_on : FnScope N_on ["size", "turns"] (defScope s_on) := ⟨rfl, rfl, rfl, by decide +kernel, rfl, by decide +kernel, by decide +kernel⟩
def sp_on (K : PySem.W.Frag) (C : Addr) : Sp := fun vs H Q E => ∃ (B : Hp) (v : V) (r : Int) (T : List Int), vs = [.int r, v] ∧ Ex B H ∧ Dt K B v T ∧ T.length ≤ 1000 ∧ (0 ≤ r → RetD K B H Q (effC r T)) ∧ (r < 0 → Rai C H E r)
theorem ok_on (e1 : CalX P w K mg base "check_number" 3 ["number"] (sp_cn C)) (e2 : Cal P w K mg base "_effect_of" 2 ["later", "size", "turns"] (sp_eo K)) :
    ∀ f fd, Fun K "effect_on" "effect_on" s_on f fd → FnOk P w K mg base (L2.CX P w) 4 f fd ["size", "turns"] (sp_on K C) := by
  refine okX_of sc_on (fun vs H Q E h => by obtain ⟨_, _, _, _, rfl, _⟩ := h; rfl) (fun f cdv A outer s0 H vs Q E hr h tk po => ?_)
  obtain ⟨B, v, r, T, rfl, kB, hd, hl, k, k2⟩ := h
  obtain ⟨a, rfl, hT⟩ := dt_ints hd
  refine s_cons (s_expr (h := e_callX e1 tk hr (h := ?_)))
  walk_at "E"
  refine ⟨_, rfl, fun r0 => ?_, k2⟩
  refine s_one (s_ret (e_call e2 (hr.mono (by decide)) (h := ?_)))
  refine a_cons (h := e_lc [("_", 2)] sc_on.nd (ok := blkOk_by (N := N_on) (sc := defScope s_on) (by decide +kernel)) (h := i_list ?_))
  walk_at "E"
  refine ⟨_, rfl, ⟨_, ex_l kB hT⟩, fun S hS => lcI (K := K) (fun _ => some r) (ex_l kB hT) kB hS (Nat.lt_of_le_of_lt hl (by decide)) ?_ ?_⟩
  · intro i y B' H' hy g KT KF kt kf s0 H0 C0 cl fp
    refine g_name 2 sc_on.nd (q := ⟨rfl, ?_⟩)
    intro s0 H0 C0 cl fp
    refine ts_nil (ift rfl ?_)
    intro s0 H0 C0 cl fp
    walk_at "E"
    exact kt _ _ B' _ rfl (Gr.refl g.k) (dtI _)
  intro B1 H1 acc g1 b1 eS d1
  rw [fm_map] at d1
  have gl := g1.learn hS b1 eS
  have ecr : T.map (fun _ => r) = cr r T := by
    unfold cr
    exact List.map_const' ..
  rw [ecr] at d1
  walk_at "E"
  have dL : Dt K (upd B1 S (.lst acc)) (.ref S) (cr r T) := dtL (SqL.of upd_same) (d1.mono (Ex.new b1))
  refine ⟨_, _, _, r, cr r T, T, rfl, gl.k, dL, hd.mono gl.b, cr_len r T, fun u B2 H2 g2 du => ?_⟩
  exact k r0 _ _ _ (gl.trans g2) du
/-! _check_effect -/
theorem sc_ce : FnScope ["size", "effect", "shift", "low", "high", "is_effect"] ["size", "effect"] (defScope s_ce) := ⟨rfl, rfl, rfl, by decide +kernel, rfl, by decide +kernel, by decide +kernel⟩
def sp_ce (K : PySem.W.Frag) (CV : Addr) : Sp := fun vs H Q E => ∃ (B : Hp) (v : V) (r : Int) (e : E3), vs = [.int r, v] ∧ Ex B H ∧ Dt K B v e ∧ 0 ≤ r ∧ (Va r e → Q .non H) ∧ (¬ Va r e → RaiV CV H E v)
theorem ok_ce (T : ExC P w K mg base "InvalidValue" CV) : ∀ f fd, Fun K "_check_effect" "_check_effect" s_ce f fd → FnOk P w K mg base (L2.CX P w) 3 f fd ["size", "effect"] (sp_ce K CV) := by
  refine okX_of sc_ce (fun vs H Q E h => by obtain ⟨_, _, _, _, rfl, _⟩ := h; rfl) (fun f cdv A outer s0 H vs Q E hr h tk po => ?_)
  obtain ⟨B, v, r, e, rfl, kB, hd, r0, k, k2⟩ := h
  obtain ⟨a, rfl, hT⟩ := dt_e3 hd
  refine s_cons (s_asg (h := ?_))
  walk_at "E"
  refine g_tup (ex_t kB hT) rfl (h := gs_cons (h := g_name 2 sc_ce.nd (q := gs_cons (h := g_name 3 sc_ce.nd (q := gs_cons (h := g_name 4 sc_ce.nd (q := gs_nil ?_)))))))
  have fin : ∀ b : Bool, (b = true ↔ Va r e) → WSs (cxOf (L2.CX P w) P w K mg base ["size", "effect", "shift", "low", "high", "is_effect"] "_check_effect" (defScope s_ce) f cdv A outer s0 H E) ((defBody s_ce).drop 2) { nx := fun _ H' => Q .non H', rt := Q } [some (.int r), some (.ref a), some (.int e.s), some (.int e.l), some (.int e.h), some (.bl b)] H := by
    intro b hb
    refine s_one (s_if (t_not (t_val ?_)))
    walk_at "E"
    cases b with
    | true => exact ⟨_, rfl, iff_ rfl (s_nil (k (hb.mp rfl)))⟩
    | false =>
      refine ⟨_, rfl, ift rfl ?_⟩
      refine s_one (s_raiseO T tk hr (h := ?_))
      walk_at "E"
      exact fun d H' e' _ hd' hx => k2 (fun z => nomatch hb.mpr z) d H' e' hd' hx
  refine s_cons (s_set 5 sc_ce.nd (h := e_and (h := e_chain3 op_le op_le op_le (h := ?_))))
  unfold tChain3
  have no : ¬ Va r e → (false = true ↔ Va r e) := fun z => ⟨(fun y => nomatch y), fun y => absurd y z⟩
  have vi := Va_iff (e := e) r0
  walk_at "E"
  refine ⟨_, _, rfl, rfl, _, rfl, ifd (fun c1 => ?_) fun c1 => ⟨_, rfl, iff_ rfl (fin false (no fun z => c1 z.l0))⟩⟩
  walk_at "E"
  refine ⟨_, _, rfl, rfl, _, rfl, ifd (fun c2 => ?_) fun c2 => ⟨_, rfl, iff_ rfl (fin false (no fun z => c2 z.lh))⟩⟩
  walk_at "E"
  refine ⟨_, _, rfl, rfl, _, rfl, ifd (fun c3 => ?_) fun c3 => fin false (no fun z => c3 z.hr)⟩
  refine e_one (e_if (t_cmp op_lt (h := ?_)))
  walk_at "E"
  refine ⟨_, _, rfl, rfl, _, rfl, ifd (fun c => ?_) fun c => ?_⟩
  · refine e_chain op_le op_le (h := e_sub (h := ?_))
    walk_at "E"
    walk_at "ii"
    walk_at "E"
    refine ⟨_, _, rfl, rfl, _, rfl, ifd (fun c4 => ?_) fun c4 => fin false (no fun z => c4 (z.s0 c).1)⟩
    walk_at "E"
    refine ⟨_, _, rfl, rfl, fin _ ?_⟩
    rw [vi, if_pos c, decide_eq_true_eq]
    exact ⟨fun z => ⟨⟨c1, c2, c3⟩, c4, z⟩, fun z => z.2.2⟩
  · refine e_cmp op_eq (h := ?_)
    walk_at "E"
    refine ⟨rfl, fin _ ?_⟩
    rw [vi, if_neg c]
    constructor
    · intro z
      exact ⟨⟨c1, c2, c3⟩, by simpa using z⟩
    · intro z
      rw [z.2]
      rfl
/-! joined_effect -/
theorem sc_je : FnScope ["size", "one", "other"] ["size", "one", "other"] (defScope s_je) := ⟨rfl, rfl, rfl, by decide +kernel, rfl, by decide +kernel, by decide +kernel⟩
def sp_je (K : PySem.W.Frag) (C CV : Addr) : Sp := fun vs H Q E => ∃ (B : Hp) (v v2 : V) (r : Int) (a b : E3), vs = [.int r, v, v2] ∧ Ex B H ∧ Dt K B v a ∧ Dt K B v2 b ∧ (r < 0 → Rai C H E r) ∧ (0 ≤ r → ¬ Va r a → RaiV CV H E v) ∧ (Va r a → ¬ Va r b → RaiV CV H E v2) ∧ (Va r a → Va r b → RetD K B H Q (joinE a b))
theorem ok_je (e1 : CalX P w K mg base "check_number" 3 ["number"] (sp_cn C)) (e2 : CalX P w K mg base "_check_effect" 3 ["size", "effect"] (sp_ce K CV)) (e3 : Cal P w K mg base "_joined" 2 ["one", "other"] (sp_jo K)) :
    ∀ f fd, Fun K "joined_effect" "joined_effect" s_je f fd → FnOk P w K mg base (L2.CX P w) 4 f fd ["size", "one", "other"] (sp_je K C CV) := by
  refine okX_of sc_je (fun vs H Q E h => by obtain ⟨_, _, _, _, _, _, rfl, _⟩ := h; rfl) (fun f cdv A outer s0 H vs Q E hr h tk po => ?_)
  obtain ⟨B, v, v2, r, a, b, rfl, kB, hd, hd2, k1, k2, k3, k4⟩ := h
  refine s_cons (s_expr (h := e_callX e1 tk hr (h := ?_)))
  walk_at "E"
  refine ⟨_, rfl, fun r0 => ?_, k1⟩
  refine s_cons (s_expr (h := e_callX e2 tk hr (h := ?_)))
  walk_at "E"
  refine ⟨B, _, _, a, rfl, kB, hd, r0, fun va => ?_, fun nv => k2 r0 nv⟩
  refine s_cons (s_expr (h := e_callX e2 tk hr (h := ?_)))
  walk_at "E"
  refine ⟨B, _, _, b, rfl, kB, hd2, r0, fun vb => ?_, fun nv => k3 va nv⟩
  refine s_one (s_ret (e_call e3 (hr.mono (by decide)) (h := ?_)))
  walk_at "E"
  exact ⟨B, _, _, a, b, rfl, kB, hd, hd2, k4 va vb⟩
/-! repeated_effect -/
theorem sc_re : FnScope ["size", "effect", "times"] ["size", "effect", "times"] (defScope s_re) := ⟨rfl, rfl, rfl, by decide +kernel, rfl, by decide +kernel, by decide +kernel⟩
def sp_re (K : PySem.W.Frag) (C CV : Addr) : Sp := fun vs H Q E => ∃ (B : Hp) (v : V) (r : Int) (a : E3) (n : Int), vs = [.int r, v, .int n] ∧ Ex B H ∧ Dt K B v a ∧ (r < 0 → Rai C H E r) ∧ (0 ≤ r → ¬ Va r a → RaiV CV H E v) ∧ (Va r a → n < 0 → Rai C H E n) ∧ (Va r a → 0 ≤ n → RetD K B H Q (pw r a n.toNat))
theorem ok_re {fj : Addr} (hj : mg "_joined" = some (.ref fj)) (hk : HeldD P w K mg base fj 2 ["one", "other"] (sp_jo K)) (e1 : CalX P w K mg base "check_number" 3 ["number"] (sp_cn C)) (e2 : CalX P w K mg base "_check_effect" 3 ["size", "effect"] (sp_ce K CV)) (e3 : Cal P w K mg base "many_times" 3 ["one", "times", "none", "joined"] (sp_mt P w K mg base)) :
    ∀ f fd, Fun K "repeated_effect" "repeated_effect" s_re f fd → FnOk P w K mg base (L2.CX P w) 4 f fd ["size", "effect", "times"] (sp_re K C CV) := by
  refine okX_of sc_re (fun vs H Q E h => by obtain ⟨_, _, _, _, _, rfl, _⟩ := h; rfl) (fun f cdv A outer s0 H vs Q E hr h tk po => ?_)
  obtain ⟨B, v, r, a, n, rfl, kB, hd, k1, k2, k3, k4⟩ := h
  refine s_cons (s_expr (h := e_callX e1 tk hr (h := ?_)))
  walk_at "E"
  refine ⟨_, rfl, fun r0 => ?_, k1⟩
  refine s_cons (s_expr (h := e_callX e2 tk hr (h := ?_)))
  walk_at "E"
  refine ⟨B, _, _, a, rfl, kB, hd, r0, fun va => ?_, fun nv => k2 r0 nv⟩
  refine s_cons (s_expr (h := e_callX e1 tk hr (h := ?_)))
  walk_at "E"
  refine ⟨_, rfl, fun n0 => ?_, fun z => k3 va z⟩
  refine s_one (s_ret (e_call e3 hr (h := ?_)))
  walk_at "E"
  refine ⟨by show 3 ≤ sizeLine; decide, fun p hp => ?_⟩
  walk_at "E"
  refine e_glob (v := .ref fj) hj rfl (q := ?_)
  walk_at "E"
  have g := (Gr.refl (M := M0) kB).new (o := .tup [.int 0, .int 0, .int r]) hp
  exact ⟨_, _, _, fj, r, a, n, rfl, hk, g.k, hd.mono g.b, dtE3 (SqT.of upd_same), va, n0, fun u B2 H2 g2 du => k4 va n0 _ _ _ (g.trans g2) du⟩
end
end K35
namespace K35
open PySem L2 Evl Lw
open Te
section
variable {P : Program} {w : World} {K : PySem.W.Frag} {mg : Str → Option Value} {base : Heap} {C CV : Addr}
/-! effect_through -/
theorem sc_et : FnScope ["sizes", "turns", "size"] ["sizes", "turns"] (defScope s_et) := ⟨rfl, rfl, rfl, by decide +kernel, rfl, by decide +kernel, by decide +kernel⟩
def sp_et (K : PySem.W.Frag) (C : Addr) : Sp := fun vs H Q E => ∃ (B : Hp) (v v2 : V) (S T : List Int), vs = [v, v2] ∧ Ex B H ∧ Dt K B v S ∧ Dt K B v2 T ∧
  (∀ (i : Nat) (x : Int), S[i]? = some x → x < 0 → (∀ (j : Nat) (y : Int), j < i → S[j]? = some y → 0 ≤ y) → Rai C H E x) ∧
  ((∀ x ∈ S, 0 ≤ x) → ¬ (T.length : Int) = (S.length : Int) - 1 → Rai C H E (T.length : Nat)) ∧
  (∀ (r : Int) (L : List Int), S = r :: L → (∀ x ∈ S, 0 ≤ x) → L.length = T.length → RetD K B H Q (eff r L T))
theorem ok_et (T0 : ExC P w K mg base "InvalidNumber" C) (ml : mg "len" = none) (e1 : CalX P w K mg base "check_number" 3 ["number"] (sp_cn C)) (e2 : Cal P w K mg base "_effect_of" 2 ["later", "size", "turns"] (sp_eo K)) :
    ∀ f fd, Fun K "effect_through" "effect_through" s_et f fd → FnOk P w K mg base (L2.CX P w) 4 f fd ["sizes", "turns"] (sp_et K C) := by
  refine okX_of sc_et (fun vs H Q E h => by obtain ⟨_, _, _, _, _, rfl, _⟩ := h; rfl) (fun f cdv A outer s0 H vs Q E hr h tk po => ?_)
  obtain ⟨B, v, v2, S, T, rfl, kB, hd, hd2, k1, k2, k3⟩ := h
  obtain ⟨a, rfl, hS⟩ := dt_ints hd
  obtain ⟨b, rfl, hT⟩ := dt_ints hd2
  refine s_cons (s_for (hp := po) (h := i_list ?_))
  walk_at "E"
  refine ⟨_, rfl, ⟨_, ex_l kB hS⟩, for_it walk_list (fun i σ H' => H' = H ∧ (∃ u, σ = [some (.ref a), some (.ref b), u]) ∧ ∀ (j : Nat) (y : Int), j < i → S[j]? = some y → 0 ≤ y) ⟨rfl, ⟨none, rfl⟩, fun j y z => absurd z (Nat.not_lt_zero _)⟩ (fun i σ H' _ ⟨e, _⟩ => e ▸ ex_l kB hS) ?_ ?_⟩
  · rintro i x σ H' H'' hi ⟨rfl, ⟨u, rfl⟩, g1⟩ ⟨rfl, hx⟩
    rw [List.getElem?_map] at hx
    cases hs : S[i]? with
    | none => rw [hs] at hx; cases hx
    | some n =>
      rw [hs] at hx
      cases hx
      refine g_name 2 sc_et.nd (q := ?_)
      refine s_one (s_expr (h := e_callX e1 tk hr (h := ?_)))
      walk_at "E"
      refine ⟨_, rfl, fun z => ⟨rfl, ⟨_, rfl⟩, fun j y hj hy => ?_⟩, fun z => k1 i n hs z g1⟩
      by_cases c : j = i
      · subst c
        rw [hs] at hy
        cases hy
        exact z
      · exact g1 j y (by omega) hy
  rintro σ H' ⟨rfl, ⟨u, rfl⟩, g1⟩
  rw [List.length_map] at g1
  have S0 : ∀ x ∈ S, 0 ≤ x := fun x hx => by
    obtain ⟨j, hj, e⟩ := List.getElem_of_mem hx
    exact g1 j x hj (by rw [List.getElem?_eq_getElem hj, e])
  refine s_cons (s_if (t_cmp op_ne (h := e_blt call_len_seq ml PySem.boot_len ?_)))
  walk_at "E"
  refine ⟨_, _, rfl, .inl (ex_l kB hT), ?_⟩
  refine e_sub (h := e_blt call_len_seq ml PySem.boot_len ?_)
  walk_at "E"
  refine ⟨_, _, rfl, .inl (ex_l kB hS), ?_⟩
  walk_at "E"
  walk_at "ii"
  refine ⟨rfl, _, rfl, ?_⟩
  rw [List.length_map, List.length_map]
  by_cases c : (T.length : Int) = (S.length : Int) - 1
  · refine iff_ (by simp [c]) (s_nil ?_)
    obtain ⟨r, L, rfl⟩ : ∃ r L, S = r :: L := by
      cases S with
      | nil => exfalso; have : ((0 : Nat) : Int) - 1 = (T.length : Int) := c.symm; omega
      | cons r L => exact ⟨r, L, rfl⟩
    have hl : L.length = T.length := by
      rw [List.length_cons] at c
      omega
    refine s_one (s_ret (e_call e2 (hr.mono (by decide)) (h := a_cons (h := e_slice (h := ?_)))))
    walk_at "E"
    refine o_some ?_
    walk_at "E"
    refine ⟨_, rfl, ?_⟩
    refine o_none ?_
    refine ⟨a, _, rfl, ex_l kB hS, fun p hp => ?_⟩
    have ec : cutV ((r :: L).map V.int) (some 1) none = L.map V.int := cut_from (ns := r :: L) (k := 1) (by rw [List.length_cons]; omega)
    rw [ec]
    have g := (Gr.refl (M := M0) kB).new (o := .lst (L.map V.int)) hp
    refine a_cons (h := e_ixL (h := ?_))
    walk_at "E"
    refine ⟨a, _, 0, _, rfl, rfl, ex_l (g.b.trans g.k) hS, at_of (j := 0) (v := .int r) rfl rfl, ?_⟩
    walk_at "E"
    exact ⟨_, _, _, r, L, T, rfl, g.k, dtLI (SqL.of upd_same), hd2.mono g.b, hl, fun u B2 H2 g2 du => k3 r L rfl S0 hl _ _ _ (g.trans g2) du⟩
  · refine ift (by simp [c]) ?_
    refine s_one (s_raiseO T0 tk (hr.mono (by decide)) (h := e_blt call_len_seq ml PySem.boot_len ?_))
    walk_at "E"
    refine ⟨_, _, rfl, .inl (ex_l kB hT), ?_⟩
    rw [List.length_map]
    exact fun d H' e _ hd hx => k2 S0 c d H' e hd hx
end
end K35
namespace K35
open PySem L2 Evl Lw
/-! ### a jug of three ints, with what may still be poured -/
structure JAt (H : Hp) (d : Addr) (n : Nat) : Prop where
  ex : ∃ x y z : Int, H d = some (dk x y z) ∧ y.natAbs < 2 ^ 150 ∧ 0 ≤ z ∧ z + n ≤ 1000000
theorem JAt.nn {H : Hp} {d : Addr} {n : Nat} (h : JAt H d n) : H d ≠ none := by
  obtain ⟨x, y, z, e, _⟩ := h.ex
  rw [e]
  exact fun z => nomatch z
theorem JAt.exx {H H' : Hp} {d : Addr} {n : Nat} (h : JAt H d n) (e : Ex H H') : JAt H' d n := by
  obtain ⟨x, y, z, q, r⟩ := h.ex
  exact ⟨x, y, z, e _ _ q, r⟩
theorem JAt.le {H : Hp} {d : Addr} {n m : Nat} (h : JAt H d n) (l : m ≤ n) : JAt H d m := by
  obtain ⟨x, y, z, q, r1, r2, r3⟩ := h.ex
  exact ⟨x, y, z, q, r1, r2, by omega⟩
theorem JAt.ne {H : Hp} {d D : Addr} {n : Nat} (h : JAt H d n) (e : H D = none) : d ≠ D := fun z => h.nn (z ▸ e)
structure Jk (B H : Hp) (d : Addr) (n : Nat) : Prop where
  k : Ex B H
  b : B d = none
  at_ : JAt H d n
theorem Jk.gr {B H B' H' : Hp} {d : Addr} {n : Nat} (h : Jk B H d n) (g : Gr M0 B H B' H') : Jk B' H' d n := ⟨g.k, g.f d h.b h.at_.nn, h.at_.exx g.ex⟩
theorem Jk.go {B H B' H' : Hp} {d : Addr} {n m : Nat} (h : Jk B H d n) (g : Gr (Md d) B H B' H') (a : JAt H' d m) : Jk B' H' d m := ⟨g.k, g.f d h.b h.at_.nn, a⟩
theorem Jk.own {B H : Hp} {d p : Addr} {n : Nat} {o : HO} (k : Jk B H d n) (hp : H p = none) : Jk B (upd H p o) d n := k.gr ((Gr.refl k.k).own hp)
theorem Jk.new {B H : Hp} {d p : Addr} {n : Nat} {o : HO} (k : Jk B H d n) (hp : H p = none) : Jk (upd B p o) (upd H p o) d n := k.gr ((Gr.refl k.k).new hp)
theorem Jk.le {B H : Hp} {d : Addr} {n m : Nat} (k : Jk B H d n) (l : m ≤ n) : Jk B H d m := ⟨k.k, k.b, k.at_.le l⟩
section
variable {J : It} {n m : Nat} {G : Hp → Prop} {Y : Nat → Hp → V → Hp → Prop} {B H1 : Hp} {g : TG} {tt : TT} {te : TE} {vs : List Nat} {σ : L2.St} {D d : Addr} {Qd : Hp → Prop}
/-- ints that are poured, c at most for each -/
theorem lcPour (c : Nat) (w : Walk J n G Y) (P : Int → Prop) (k : Jk B H1 d (m + c * n)) (hD : H1 D = none) (hn : n < sizeLine)
    (hG : ∀ B' H' q, Gr (Md d) B H1 B' H' → Jk B' H' d q → G H')
    (hs : ∀ i q x B' H' H'', i < n → Gr (Md d) B H1 B' H' → Jk B' H' d (q + c) → Y i H' x H'' → ∀ (KT : VK) (KF : Hp → Prop), (∀ z B4 H4, Gr (Md d) B' H' B4 H4 → Jk B4 H4 d q → P z → KT (.int z) H4) →
      g x (wipe σ vs) H'' fun σ2 H2 => wipe σ2 vs = wipe σ vs ∧ tt σ2 H2 fun b H3 => if b = true then te σ2 H3 KT else KF H3)
    (hd : ∀ B' H' (ns : List Int), Gr (Md d) B H1 B' H' → Jk B' H' d m → B' D = none → H' D = some (.lst (ns.map V.int)) → ns.length = n → (∀ z ∈ ns, P z) → Qd H') : tLcR J g tt te vs σ H1 D Qd := by
  have hdD : d ≠ D := k.at_.ne hD
  refine lcB (M := Md d) w (fun i B' H' acc => Jk B' H' d (m + c * (n - i)) ∧ ∃ ns : List Int, acc = ns.map V.int ∧ ns.length = i ∧ ∀ z ∈ ns, P z) k.k hD (fun z => hdD z.symm) ⟨k, [], rfl, rfl, fun z hz => nomatch hz⟩ (fun i B' H' acc l hb ⟨⟨k1, k2, k3⟩, s⟩ => ⟨⟨fun a u e => by rw [upd_ne (ne_of_none e hb)]; exact k1 a u e, k2, ?_⟩, s⟩) (fun i B' H' acc _ g s => hG B' H' _ g s.1) ?_ ?_
  · obtain ⟨x, y, z, e, r⟩ := k3.ex
    exact ⟨x, y, z, by rw [upd_ne hdD]; exact e, r⟩
  · intro i x B' H' H'' acc hi g b e s y KT KF kt kf
    obtain ⟨dk', ns, rfl, hl, hp⟩ := s
    have eq : m + c * (n - i) = (m + c * (n - (i + 1))) + c := by
      rw [show n - i = (n - (i + 1)) + 1 by omega, Nat.mul_add, Nat.mul_one]
      omega
    rw [eq] at dk'
    refine hs i _ x B' H' H'' hi g dk' y KT KF fun z B4 H4 g4 d4 pz => kt _ B4 H4 g4 (by rw [List.length_map]; omega) ⟨d4, ns ++ [z], by rw [List.map_append]; rfl, by rw [List.length_append, hl]; rfl, fun q hq => ?_⟩
    rcases List.mem_append.mp hq with h | h
    · exact hp q h
    · rw [List.mem_singleton.mp h]; exact pz
  · intro B' H' acc g b e s
    obtain ⟨dk', ns, rfl, hl, hp⟩ := s
    exact hd B' H' ns g (dk'.le (Nat.le_add_right _ _)) b e hl hp
end
section
variable {P : Program} {w : World} {K : PySem.W.Frag} {mg : Str → Option Value} {base : Heap} {C : Addr}
/-! _law_jug -/
theorem sc_jug : FnScope ["_law_script", "_law_k", "_law_cell"] ["_law_script", "_law_k"] (defScope s_jug) := ⟨rfl, rfl, rfl, by decide +kernel, rfl, by decide +kernel, by decide +kernel⟩
def sp_jug (K : PySem.W.Frag) : Sp := fun vs H Q _ => ∃ (a : Addr) (ns : List Int) (i : Nat), vs = [.ref a, .int (i : Nat)] ∧ SqL K H a (ns.map V.int) ∧ i ≤ 100 ∧ ∀ p x y z, H p = none → JAt (upd H p (dk x y z)) p 900000 → Q (.ref p) (upd H p (dk x y z))
theorem ok_jug (ml : mg "len" = none) (mm : mg "max" = none) : ∀ f fd, Fun K "_law_jug" "_law_jug" s_jug f fd → FnOk P w K mg base CX0 1 f fd ["_law_script", "_law_k"] (sp_jug K) := by
  refine ok_of sc_jug (fun vs H Q E h => by obtain ⟨_, _, _, rfl, _⟩ := h; rfl) (fun f cdv A outer s H vs Q E hr h => ?_)
  obtain ⟨a, ns, i, rfl, hL, hi, k⟩ := h
  have fin : ∀ c : Int, WSs (cxOf CX0 P w K mg base ["_law_script", "_law_k", "_law_cell"] "_law_jug" (defScope s_jug) f cdv A outer s H E).nox ((defBody s_jug).drop 1) { nx := fun _ H' => Q .non H', rt := Q } [some (.ref a), some (.int (i : Nat)), some (.int c)] H := by
    intro c
    refine s_one (s_ret (e_lst (a_cons (h := e_blt (call_max2 rfl) mm (by decide +kernel) (a_cons (h := e_int (a_cons (h := e_sub (h := ?_)))))))))
    walk_at "E"
    refine e_pow (h := ?_)
    walk_at "E"
    refine ⟨_, _, rfl, rfl, ⟨by decide, by decide, by decide⟩, ?_⟩
    walk_at "ii"
    walk_at "E"
    refine ⟨_, _, rfl, ?_⟩
    refine a_cons (h := e_add (h := e_add (h := e_bin op_mul (h := e_mod (h := ?_)))))
    walk_at "E"
    refine e_add (h := e_pow (h := ?_))
    walk_at "E"
    refine ⟨_, _, rfl, rfl, ⟨by decide, by decide, by decide⟩, ?_⟩
    walk_at "E"
    walk_at "ii"
    refine ⟨_, _, rfl, rfl, by decide, ?_⟩
    walk_at "E"
    refine ⟨_, _, rfl, rfl, .inr (by decide), ?_⟩
    refine e_bin op_mul (h := ?_)
    walk_at "E"
    refine ⟨_, _, rfl, rfl, .inl (by decide), ?_⟩
    walk_at "ii"
    walk_at "E"
    walk_at "ii"
    walk_at "E"
    refine ⟨by show 3 ≤ sizeLine; decide, fun p hp => k p _ _ _ hp ⟨_, _, _, upd_same, ?_, by decide, by decide⟩⟩
    have e1 : (10 : Int) ^ (39 : Int).toNat + 3 = 1000000000000000000000000000000000000003 := by decide
    rw [e1]
    have e2 : (2 : Nat) ^ 150 = 1427247692705959881058285969449495136382746624 := by decide
    rw [e2]
    have h1 := Int.emod_nonneg c (b := 1000000000000000000000000000000000000003) (by decide)
    have h2 := Int.emod_lt_of_pos c (b := 1000000000000000000000000000000000000003) (by decide)
    omega
  refine s_cons (s_set 2 sc_jug.nd (h := e_if (t_cmp op_lt (h := ?_))))
  walk_at "E"
  refine e_blt call_len_seq ml PySem.boot_len ?_
  walk_at "E"
  refine ⟨_, _, rfl, .inl hL, _, _, rfl, rfl, _, rfl, ifd (fun h => ?_) fun _ => ?_⟩
  · rw [List.length_map] at h
    refine e_ixL (h := ?_)
    walk_at "E"
    have e : ns[i]? = some (ns[i]'(by omega)) := List.getElem?_eq_getElem (by omega)
    exact ⟨_, _, _, _, rfl, rfl, hL, at_of rfl (by rw [List.getElem?_map, e]; rfl), fin _⟩
  · walk_at "E"
    exact fin _
/-! _law_pour -/
theorem sc_pour : FnScope ["_law_jug_here", "_law_many", "_law_found", "_law_mixed"] ["_law_jug_here", "_law_many"] (defScope s_pour) := ⟨rfl, rfl, rfl, by decide +kernel, rfl, by decide +kernel, by decide +kernel⟩
def sp_pour : Sp := fun vs H Q _ => ∃ (d : Addr) (m : Int) (n : Nat), vs = [.ref d, .int m] ∧ JAt H d (n + 1) ∧ 0 < m ∧ m.natAbs < 2 ^ 250 ∧ ∀ r x y z, 0 ≤ r → r < m → JAt (upd H d (dk x y z)) d n → Q (.int r) (upd H d (dk x y z))
theorem ok_pour (mi : mg "int" = none) : ∀ f fd, Fun K "_law_pour" "_law_pour" s_pour f fd → FnOk P w K mg base CX0 1 f fd ["_law_jug_here", "_law_many"] sp_pour := by
  refine ok_of sc_pour (fun vs H Q E h => by obtain ⟨_, _, _, rfl, _⟩ := h; rfl) (fun f cdv A outer s H vs Q E hr h => ?_)
  obtain ⟨d, m, n, rfl, hj, hm, hm2, k⟩ := h
  obtain ⟨x, y, z, hd, hy, hz0, hz⟩ := hj.ex
  have g0 : ∀ {H' : Hp} {x y z : Int} (h : H' d = some (dk x y z)), SqL K H' d [.int x, .int y, .int z] := fun h => SqL.of h
  have cd : CDivW x m := wide_div hm hm2 (by decide) (by decide)
  refine s_cons (s_if (t_cmp op_gt (h := e_ixL (h := ?_))))
  walk_at "E"
  refine ⟨_, _, _, _, rfl, rfl, g0 hd, rfl, ?_⟩
  walk_at "E"
  refine ⟨_, _, rfl, rfl, _, rfl, ifd (fun h => ?_) fun _ => s_nil ?_⟩
  · refine s_cons (s_set 2 sc_pour.nd (h := e_mod (h := e_ty call_int1 mi (by decide +kernel) (a_cons (h := e_ixL (h := ?_))))))
    walk_at "E"
    refine ⟨_, _, _, _, rfl, rfl, g0 hd, rfl, ?_⟩
    walk_at "E"
    refine .inl ⟨_, rfl, ?_⟩
    walk_at "E"
    refine ⟨_, _, rfl, rfl, hm, ?_⟩
    refine s_cons (s_sub (h := e_fdiv (h := e_ixL (h := ?_))))
    walk_at "E"
    refine ⟨_, _, _, _, rfl, rfl, g0 hd, rfl, ?_⟩
    walk_at "E"
    refine ⟨_, _, rfl, rfl, cd, ?_⟩
    walk_at "E"
    refine ⟨_, _, _, 0, rfl, rfl, hd, rfl, ?_⟩
    refine s_one (s_ret ?_)
    walk_at "E"
    exact k _ (x / m) y z (Int.emod_nonneg _ (by omega)) (Int.emod_lt_of_pos _ hm) ⟨_, _, _, upd_same, hy, hz0, by omega⟩
  · refine s_cons (s_sub (h := e_add (h := e_ixL (h := ?_))))
    walk_at "E"
    refine ⟨_, _, _, _, rfl, rfl, g0 hd, rfl, ?_⟩
    walk_at "E"
    walk_at "ii"
    walk_at "E"
    refine ⟨_, _, _, 2, rfl, rfl, hd, rfl, ?_⟩
    have h2 : (upd H d (.lst ([V.int x, .int y, .int z].set 2 (.int (z + 1))))) d = some (dk x y (z + 1)) := upd_same
    have e2 : (2 : Nat) ^ 150 = 1427247692705959881058285969449495136382746624 := by decide
    rw [e2] at hy
    refine s_cons (s_set 3 sc_pour.nd (h := e_mod (h := e_ty call_int1 mi (by decide +kernel) (a_cons (h := e_powW (h := e_add (h := e_ixL (h := ?_))))))))
    walk_at "E"
    refine ⟨_, _, _, _, rfl, rfl, g0 h2, rfl, ?_⟩
    refine e_bin op_mul (h := ?_)
    walk_at "E"
    refine e_ixL (h := ?_)
    walk_at "E"
    refine ⟨_, _, _, _, rfl, rfl, g0 h2, rfl, ?_⟩
    refine ⟨_, _, rfl, rfl, .inl (by decide), ?_⟩
    walk_at "ii"
    walk_at "E"
    refine ⟨_, _, rfl, rfl, powW_of (n := 160) ?_ (by decide) (by decide), ?_⟩
    · have e3 : (2 : Nat) ^ 160 = 1461501637330902918203684832716283019655932542976 := by decide
      rw [e3]
      omega
    walk_at "E"
    refine .inl ⟨_, rfl, ?_⟩
    refine e_add (h := e_pow (h := ?_))
    walk_at "E"
    refine ⟨_, _, rfl, rfl, ⟨by decide, by decide, by decide⟩, ?_⟩
    walk_at "E"
    walk_at "ii"
    refine ⟨_, _, rfl, rfl, by decide, ?_⟩
    generalize hq : (y + 24036583 * (z + 1)) ^ (3 : Int).toNat % (10 ^ (42 : Int).toNat + 63) = q1
    have b1 : q1.natAbs < 2 ^ 145 := by
      have a1 := Int.emod_nonneg ((y + 24036583 * (z + 1)) ^ (3 : Int).toNat) (b := 10 ^ (42 : Int).toNat + 63) (by decide)
      have a2 := Int.emod_lt_of_pos ((y + 24036583 * (z + 1)) ^ (3 : Int).toNat) (b := 10 ^ (42 : Int).toNat + 63) (by decide)
      rw [hq] at a1 a2
      have e4 : (10 : Int) ^ (42 : Int).toNat + 63 = 1000000000000000000000000000000000000000063 := by decide
      rw [e4] at a2
      have e5 : (2 : Nat) ^ 145 = 44601490397061246283071436545296723011960832 := by decide
      rw [e5]
      omega
    refine s_cons (s_set 3 sc_pour.nd (h := e_mod (h := e_ty call_int1 mi (by decide +kernel) (a_cons (h := e_powW (h := e_add (h := ?_)))))))
    walk_at "E"
    refine e_bin op_mul (h := ?_)
    walk_at "E"
    refine e_ixL (h := ?_)
    walk_at "E"
    refine ⟨_, _, _, _, rfl, rfl, g0 h2, rfl, ?_⟩
    refine ⟨_, _, rfl, rfl, .inl (by decide), ?_⟩
    walk_at "ii"
    walk_at "E"
    refine ⟨_, _, rfl, rfl, powW_of (n := 160) ?_ (by decide) (by decide), ?_⟩
    · have e3 : (2 : Nat) ^ 160 = 1461501637330902918203684832716283019655932542976 := by decide
      have e5 : (2 : Nat) ^ 145 = 44601490397061246283071436545296723011960832 := by decide
      rw [e5] at b1
      rw [e3]
      omega
    walk_at "E"
    refine .inl ⟨_, rfl, ?_⟩
    refine e_add (h := e_pow (h := ?_))
    walk_at "E"
    refine ⟨_, _, rfl, rfl, ⟨by decide, by decide, by decide⟩, ?_⟩
    walk_at "E"
    walk_at "ii"
    refine ⟨_, _, rfl, rfl, by decide, ?_⟩
    refine s_one (s_ret (e_mod (h := e_fdiv (h := ?_))))
    walk_at "E"
    refine ⟨_, _, rfl, rfl, wide_div (b := 30) (by decide) (by decide) (by decide) (by decide), ?_⟩
    walk_at "E"
    refine ⟨_, _, rfl, rfl, hm, ?_⟩
    exact k _ x y (z + 1) (Int.emod_nonneg _ (by omega)) (Int.emod_lt_of_pos _ hm) ⟨_, _, _, upd_same, by rw [e2]; exact hy, by omega, by omega⟩
theorem pour_k {B H : Hp} {d : Addr} {m : Int} {n : Nat} {Q : VK} (k : Jk B H d (n + 1)) (hm : 0 < m) (hb : m.natAbs < 2 ^ 250) (q : ∀ r H', 0 ≤ r → r < m → Gr (Md d) B H B H' → Jk B H' d n → Q (.int r) H') : sp_pour [.ref d, .int m] H Q E0 :=
  ⟨d, m, n, rfl, k.at_, hm, hb, fun r x y z h0 h1 j =>
    have g := (Gr.refl (M := Md d) k.k).deck (x := x) (y := y) (z := z) k.b
    q r _ h0 h1 g (k.go g j)⟩
/-! _law_turns -/
abbrev N_turns : List Str := ["_law_jug_here", "_law_most", "_law_size", "_law_many", "_law_turn"]
theorem sc_turns : FnScope N_turns ["_law_jug_here", "_law_most", "_law_size"] (defScope s_turns) := ⟨rfl, rfl, rfl, by decide +kernel, rfl, by decide +kernel, by decide +kernel⟩
def sp_turns (K : PySem.W.Frag) : Sp := fun vs H Q _ => ∃ (B : Hp) (d : Addr) (mo si : Int) (n : Nat), vs = [.ref d, .int mo, .int si] ∧ Jk B H d (n + 100) ∧ 0 ≤ mo ∧ mo ≤ 50 ∧ 0 ≤ si ∧ si ≤ 1000 ∧
  ∀ v ts B' H', Gr (Md d) B H B' H' → Jk B' H' d n → (∃ a, v = .ref a ∧ B' a = some (.lst ((ts : List Int).map V.int))) → ts.length ≤ 60 → (∀ t ∈ ts, -si ≤ t ∧ t ≤ si) → Q v H'
theorem ok_turns (mr : mg "range" = none) (e1 : Cal P w K mg base "_law_pour" 1 ["_law_jug_here", "_law_many"] sp_pour) : ∀ f fd, Fun K "_law_turns" "_law_turns" s_turns f fd → FnOk P w K mg base CX0 2 f fd ["_law_jug_here", "_law_most", "_law_size"] (sp_turns K) := by
  refine ok_of sc_turns (fun vs H Q E h => by obtain ⟨_, _, _, _, _, rfl, _⟩ := h; rfl) (fun f cdv A outer s H vs Q E hr h => ?_)
  obtain ⟨B, d, mo, si, n, rfl, j0, hm0, hm1, hs0, hs1, k⟩ := h
  have fin : ∀ (c : Nat) (H1 : Hp), c ≤ 60 → Gr (Md d) B H B H1 → Jk B H1 d (n + 2 * 49 - 38) → WSs (cxOf CX0 P w K mg base N_turns "_law_turns" (defScope s_turns) f cdv A outer s H E).nox ((defBody s_turns).drop 1) { nx := fun _ H' => Q .non H', rt := Q } [some (.ref d), some (.int mo), some (.int si), some (.int c), none] H1 := by
    intro c H1 hc g1 j1
    refine s_one (s_ret (e_lc [("_law_turn", 4)] sc_turns.nd (ok := blkOk_by (N := N_turns) (sc := defScope s_turns) (by decide +kernel)) (h := i_rng1 mr (h := ?_))))
    walk_at "E"
    refine ⟨_, rfl, by omega, by omega, fun D hD => lcPour 1 (m := n) walk_range (fun z => -si ≤ z ∧ z ≤ si) (j1.le (by omega)) hD (Nat.lt_of_le_of_lt (by omega : (c : Int).toNat ≤ 60) (by decide)) (fun _ _ _ _ _ => trivial) ?_ ?_⟩
    · rintro i q x B' H' H'' hi g j' ⟨rfl, rfl⟩ KT KF kt s0 H0 C0 cl fp
      refine g_name 4 sc_turns.nd (q := ⟨rfl, ?_⟩)
      intro s0 H0 C0 cl fp
      refine ts_nil (ift rfl ?_)
      intro s0 H0 C0 cl fp
      refine e_sub (h := e_call e1 (hr.mono (by decide)) (h := ?_))
      walk_at "E"
      refine e_add (h := e_bin op_mul (h := ?_))
      walk_at "E"
      refine ⟨_, _, rfl, rfl, .inl (by decide), ?_⟩
      walk_at "E"
      walk_at "ii"
      walk_at "E"
      refine pour_k j' (by omega) (sq_int (n := 3000) (by omega) _ (by decide)) fun r H4 r0 r1 g4 j4 => ?_
      walk_at "E"
      walk_at "ii"
      exact kt _ B' H4 g4 j4 (by omega)
    · intro B2 H2 ts g2 j2 b2 eD hl hp
      have gA : Gr (Md d) B H (upd B2 D (.lst (ts.map V.int))) H2 := (g1.trans g2).learn (g1.free hD) b2 eD
      exact k _ ts _ _ gA (j0.go gA j2.at_) ⟨_, rfl, upd_same⟩ (by omega) hp
  refine s_cons (s_set 3 sc_turns.nd (h := e_if (t_cmp op_eq (h := e_call e1 (hr.mono (by decide)) (h := ?_)))))
  walk_at "E"
  refine pour_k (n := n + 99) j0 (by decide) (by decide) fun r H1 r0 r1 g1 j1 => ?_
  walk_at "E"
  refine ⟨rfl, _, rfl, ifd (fun h => ?_) fun h => ?_⟩
  · walk_at "E"
    exact fin 60 H1 (by omega) g1 (j1.le (by omega))
  · refine e_call e1 (hr.mono (by decide)) (h := ?_)
    walk_at "E"
    refine e_add (h := ?_)
    walk_at "E"
    walk_at "ii"
    walk_at "E"
    refine pour_k (n := n + 98) j1 (by omega) (sq_int (n := 3000) (by omega) _ (by decide)) fun r2 H2 r3 r4 g2 j2 => ?_
    obtain ⟨c, rfl⟩ : ∃ c : Nat, r2 = (c : Int) := ⟨r2.toNat, by omega⟩
    exact fin c H2 (by omega) (g1.trans g2) (j2.le (by omega))
end
end K35
namespace K35
open PySem L2 Evl Lw
open Te
section
variable {P : Program} {w : World} {K : PySem.W.Frag} {mg : Str → Option Value} {base : Heap} {C CV : Addr}
/-! _law_led -/
abbrev N_led : List Str := ["_law_sizes", "_law_turns_here", "_law_scroll", "_law_spot", "_law_turn"]
theorem sc_led : FnScope N_led ["_law_sizes", "_law_turns_here", "_law_scroll"] (defScope s_led) := ⟨rfl, rfl, rfl, by decide +kernel, rfl, by decide +kernel, by decide +kernel⟩
def sp_led (K : PySem.W.Frag) : Sp := fun vs H Q _ => ∃ (B : Hp) (v v2 : V) (r x : Int) (L T : List Int), vs = [v, v2, .int x] ∧ Ex B H ∧ Dt K B v (r :: L) ∧ Dt K B v2 T ∧ L.length = T.length ∧ ∀ H', Gr M0 B H B H' → Q (.int (led r L T x)) H'
theorem led_next {r x : Int} {L T : List Int} {i : Nat} {l t : Int} (hl : L[i]? = some l) (ht : T[i]? = some t) : led r (L.drop i) (T.drop i) x = led l (L.drop (i + 1)) (T.drop (i + 1)) (min l (max 0 (min r (x + t)))) := by
  rw [drop_eq hl, drop_eq ht]
  rfl
theorem ok_led (me : mg "enumerate" = none) (mm : mg "max" = none) (mi : mg "min" = none) : ∀ f fd, Fun K "_law_led" "_law_led" s_led f fd → FnOk P w K mg base CX0 1 f fd ["_law_sizes", "_law_turns_here", "_law_scroll"] (sp_led K) := by
  refine ok_of sc_led (fun vs H Q E h => by obtain ⟨_, _, _, _, _, _, _, rfl, _⟩ := h; rfl) (fun f cdv A outer s H vs Q E hr h => ?_)
  obtain ⟨B, v, v2, r, x0, L, T, rfl, kB, hd, hd2, hl, k⟩ := h
  obtain ⟨a, rfl, hS⟩ := dt_ints hd
  obtain ⟨b, rfl, hT⟩ := dt_ints hd2
  refine s_cons (s_for (h := i_enum me (h := ?_)))
  walk_at "E"
  refine ⟨_, _, rfl, ex_l kB hT, for_it walk_enum (fun i σ H' => Gr M0 B H B H' ∧ ∃ (ro y : Int) (u u' : Option V), σ = [some (.ref a), some (.ref b), some (.int y), u, u'] ∧ (r :: L)[i]? = some ro ∧ led ro (L.drop i) (T.drop i) y = led r L T x0) ⟨Gr.refl kB, r, x0, none, none, rfl, rfl, rfl⟩ (fun i σ H' _ ⟨g, _⟩ => ex_l g.k hT) ?_ ?_⟩
  · rintro i x σ H' H'' hi ⟨g, ro, y0, u, u', rfl, hro, he⟩ ⟨Z, x, y, rfl, hZ, rfl, hx, hy⟩
    cases hx
    have hy : (T.map V.int)[i]? = some y := hy
    rw [List.getElem?_map] at hy
    rw [List.length_map] at hi
    cases et : T[i]? with
    | none => rw [et] at hy; cases hy
    | some t =>
      rw [et] at hy
      cases hy
      have g1 := g.own (o := .tup [.int (i : Nat), .int t]) hZ
      refine g_tup (SqT.of upd_same) rfl (h := gs_cons (h := g_name 3 sc_led.nd (q := gs_cons (h := g_name 4 sc_led.nd (q := gs_nil ?_)))))
      show WSs _ _ _ _ (upd H' Z (.tup [.int (i : Nat), .int t]))
      generalize upd H' Z (HO.tup [V.int (i : Nat), .int t]) = H1 at *
      obtain ⟨l, el⟩ : ∃ l, L[i]? = some l := ⟨_, List.getElem?_eq_getElem (by omega)⟩
      have el1 : (r :: L)[i + 1]? = some l := by rw [List.getElem?_cons_succ]; exact el
      refine s_one (s_set 2 sc_led.nd (h := e_blt (call_min2 rfl) mi (by decide +kernel) (a_cons (h := e_ixL (h := ?_)))))
      walk_at "E"
      refine e_add (h := ?_)
      walk_at "E"
      walk_at "ii"
      refine ⟨a, _, _, _, rfl, rfl, ex_l g1.k hS, at_of (j := i + 1) (by omega) (at_map el1), ?_⟩
      refine a_cons (h := e_blt (call_max2 rfl) mm (by decide +kernel) ?_)
      walk_at "E"
      refine e_blt (call_min2 rfl) mi (by decide +kernel) (a_cons (h := e_ixL (h := ?_)))
      walk_at "E"
      refine ⟨a, _, _, _, rfl, rfl, ex_l g1.k hS, at_of (j := i) rfl (at_map hro), ?_⟩
      refine a_cons (h := e_add (h := ?_))
      walk_at "E"
      walk_at "ii"
      walk_at "E"
      refine ⟨_, _, rfl, ?_⟩
      walk_at "E"
      refine ⟨_, _, rfl, ?_⟩
      walk_at "E"
      refine ⟨_, _, rfl, ?_⟩
      rw [py_min, py_max, py_min]
      exact ⟨g1, l, _, _, _, rfl, el1, by rw [← he, led_next el et]⟩
  rintro σ H' ⟨g, ro, y, u, u', rfl, hro, he⟩
  rw [List.length_map] at he
  rw [List.drop_length, show L.drop T.length = [] by rw [← hl]; exact List.drop_length] at he
  refine s_one (s_ret ?_)
  walk_at "E"
  have he' : y = led r L T x0 := he
  rw [he']
  exact k H' g
end
end K35
namespace K35
open PySem L2 Evl Lw
open Te
section
variable {P : Program} {w : World} {K : PySem.W.Frag} {mg : Str → Option Value} {base : Heap} {C CV : Addr}
theorem at_last {xs : List V} {v : V} (h : xs[xs.length - 1]? = some v) : atI xs (-1) = some v := by
  have hl : xs.length - 1 < xs.length := (List.getElem?_eq_some_iff.mp h).1
  have e : ixN xs.length (-1) = some (xs.length - 1) := by
    unfold ixN
    rw [if_neg (by omega), if_pos (by omega)]
    congr 1
    omega
  unfold atI
  rw [e]
  exact h
/-! _law_is_effect -/
abbrev N_ise : List Str := ["_law_told", "_law_sizes", "_law_turns_here", "_law_shift", "_law_low", "_law_high", "_law_ends", "_law_scroll"]
theorem sc_ise : FnScope N_ise ["_law_told", "_law_sizes", "_law_turns_here"] (defScope s_ise) := ⟨rfl, rfl, rfl, by decide +kernel, rfl, by decide +kernel, by decide +kernel⟩
def sp_ise (K : PySem.W.Frag) : Sp := fun vs H Q _ => ∃ (B : Hp) (v v2 v3 : V) (r : Int) (L T : List Int), vs = [v, v2, v3] ∧ Ex B H ∧ Dt K B v (eff r L T) ∧ Dt K B v2 (r :: L) ∧ Dt K B v3 T ∧ L.length = T.length ∧ 0 ≤ r ∧ r ≤ 1000 ∧ (∀ l ∈ L, 0 ≤ l) ∧ ∀ H', Gr M0 B H B H' → Q (.bl true) H'
theorem ok_ise (mr : mg "range" = none) (ml : mg "len" = none) (mm : mg "max" = none) (mi : mg "min" = none) (ms : mg "sum" = none) (mis : mg "isinstance" = none) (mt : mg "tuple" = none) (e1 : Cal P w K mg base "_law_led" 1 ["_law_sizes", "_law_turns_here", "_law_scroll"] (sp_led K)) :
    ∀ f fd, Fun K "_law_is_effect" "_law_is_effect" s_ise f fd → FnOk P w K mg base CX0 2 f fd ["_law_told", "_law_sizes", "_law_turns_here"] (sp_ise K) := by
  refine ok_of sc_ise (fun vs H Q E h => by obtain ⟨_, _, _, _, _, _, _, rfl, _⟩ := h; rfl) (fun f cdv A outer s H vs Q E hr h => ?_)
  obtain ⟨B, v, v2, v3, r, L, T, rfl, kB, hd, hd2, hd3, hl, r0, r1, L0, k⟩ := h
  obtain ⟨a, rfl, hE⟩ := dt_e3 hd
  obtain ⟨b, rfl, hS⟩ := dt_ints hd2
  obtain ⟨c, rfl, hT⟩ := dt_ints hd3
  refine s_cons (s_if (t_wb (b_or (t_not (t_val (e_blt call_isi mis (by decide +kernel) ?_))))))
  walk_at "E"
  refine e_bltn mt bnm_tuple (v := .ty "tuple") rfl (q := ?_)
  walk_at "E"
  refine ⟨_, _, .type "tuple", .type "tuple", true, rfl, .ty _, tyx_t (ex_t kB hE), kit_ty (by decide +kernel), true, rfl, iff_ rfl ?_⟩
  refine b_or1 (t_cmp op_ne (h := e_blt call_len_seq ml PySem.boot_len ?_))
  walk_at "E"
  refine ⟨_, _, rfl, .inr (ex_t kB hE), ?_⟩
  walk_at "E"
  refine ⟨rfl, _, rfl, iff_ (by simp) (s_nil ?_)⟩
  refine s_cons (s_asg (h := ?_))
  walk_at "E"
  refine g_tup (ex_t kB hE) rfl (h := gs_cons (h := g_name 3 sc_ise.nd (q := gs_cons (h := g_name 4 sc_ise.nd (q := gs_cons (h := g_name 5 sc_ise.nd (q := gs_nil ?_)))))))
  refine s_cons (s_setLc 6 [("_law_scroll", 7)] sc_ise.nd (ok := blkOk_by (N := N_ise) (sc := defScope s_ise) (by decide +kernel)) (h := i_rng1 mr (h := e_add (h := e_ixL (h := ?_)))))
  walk_at "E"
  refine ⟨b, _, 0, _, rfl, rfl, ex_l kB hS, at_of (j := 0) (v := .int r) rfl rfl, ?_⟩
  walk_at "E"
  walk_at "ii"
  obtain ⟨n, hn⟩ : ∃ n : Nat, r + 1 = ((n + 1 : Nat) : Int) := ⟨r.toNat, by omega⟩
  have ea : ∀ i : Nat, i < n + 1 → led r L T (i : Nat) = app (eff r L T) (i : Nat) := fun i hi => eff_app hl r0 L0 (by omega) (by omega)
  refine ⟨_, rfl, by omega, by omega, fun D hD => ?_⟩
  rw [hn]
  refine lcR (K := K) (n := n + 1) (fun i => some (led r L T (i : Nat))) kB hD (Nat.lt_of_le_of_lt (by omega : n + 1 ≤ 1001) (by decide)) ?_ ?_
  · intro i B' H' hi g KT KF kt kf s0 H0 C0 cl fp
    refine g_name 7 sc_ise.nd (q := ⟨rfl, ?_⟩)
    intro s0 H0 C0 cl fp
    refine ts_nil (ift rfl ?_)
    intro s0 H0 C0 cl fp
    refine e_call e1 hr (h := ?_)
    walk_at "E"
    exact ⟨B, _, _, r, (i : Nat), L, T, rfl, g.b.trans g.k, hd2, hd3, hl, fun H3 g3 => kt _ _ B' H3 rfl (gr_ex g.k (g3.ex)) (dtI _)⟩
  intro B1 H1 acc g1 b1 e1' d1
  rw [fm_map] at d1
  have ei := d1.ints
  subst ei
  have g := g1.learn hD b1 e1'
  have k1 : Ex B H1 := g1.b.trans g1.k
  have get : ∀ i : Nat, i < n + 1 → (((List.range (n + 1)).map fun i => led r L T ((i : Nat) : Int)).map V.int)[i]? = some (.int (led r L T ((i : Nat) : Int))) := fun i hi => by
    rw [List.getElem?_map, List.getElem?_map, List.getElem?_range hi]; rfl
  have ln : (((List.range (n + 1)).map fun i => led r L T ((i : Nat) : Int)).map V.int).length = n + 1 := by rw [List.length_map, List.length_map, List.length_range]
  have en : led r L T r = led r L T ((n : Nat) : Int) := by congr 1; omega
  refine s_cons (s_if (t_wb (b_or (t_cmp op_ne (h := ?_)))))
  walk_at "E"
  refine e_ixL (h := ?_)
  walk_at "E"
  refine ⟨D, _, 0, _, rfl, rfl, SqL.of e1', at_of (j := 0) rfl (get 0 (by omega)), ?_⟩
  refine ⟨rfl, _, rfl, iff_ (by simp [eff]) ?_⟩
  refine b_or (t_cmp op_ne (h := ?_))
  walk_at "E"
  refine e_ixL (h := ?_)
  walk_at "E"
  refine ⟨_, rfl, D, _, _, _, rfl, rfl, SqL.of e1', at_last (by rw [ln]; exact get n (by omega)), ?_⟩
  refine ⟨rfl, _, rfl, iff_ (by simp [eff, en]) ?_⟩
  have fin : ∀ H2, Gr M0 B H1 B H2 → WSs (cxOf CX0 P w K mg base N_ise "_law_is_effect" (defScope s_ise) f cdv A outer s H E).nox ((defBody s_ise).drop 4) { nx := fun _ H' => Q .non H', rt := Q } [some (.ref a), some (.ref b), some (.ref c), some (.int (eff r L T).s), some (.int (eff r L T).l), some (.int (eff r L T).h), some (.ref D), none] H2 := by
    intro H2 g2
    refine s_one (s_ret (e_cmp (op_eqD hr.units) (h := ?_)))
    walk_at "nm"
    refine e_lc [("_law_scroll", 7)] sc_ise.nd (ok := blkOk_by (N := N_ise) (sc := defScope s_ise) (by decide +kernel)) (h := i_rng1 mr (h := e_add (h := e_ixL (h := ?_))))
    walk_at "E"
    refine ⟨b, _, 0, _, rfl, rfl, ex_l g2.k hS, at_of (j := 0) (v := .int r) rfl rfl, ?_⟩
    walk_at "E"
    walk_at "ii"
    refine ⟨_, rfl, by omega, by omega, fun D2 hD2 => ?_⟩
    rw [hn]
    refine lcR (K := K) (n := n + 1) (fun i => some (app (eff r L T) (i : Nat))) g2.k hD2 (Nat.lt_of_le_of_lt (by omega : n + 1 ≤ 1001) (by decide)) ?_ ?_
    · intro i B' H' hi g KT KF kt kf s0 H0 C0 cl fp
      refine g_name 7 sc_ise.nd (q := ⟨rfl, ?_⟩)
      intro s0 H0 C0 cl fp
      refine ts_nil (ift rfl ?_)
      intro s0 H0 C0 cl fp
      refine e_blt (call_max2 rfl) mm (by decide +kernel) (a_cons (h := ?_))
      walk_at "E"
      refine e_blt (call_min2 rfl) mi (by decide +kernel) (a_cons (h := ?_))
      walk_at "E"
      refine e_add (h := ?_)
      walk_at "E"
      walk_at "ii"
      walk_at "E"
      refine ⟨_, _, rfl, ?_⟩
      walk_at "E"
      refine ⟨_, _, rfl, ?_⟩
      rw [py_max, py_min]
      exact kt _ _ B' _ rfl (Gr.refl g.k) (dtI _)
    intro B3 H3 acc3 g3 b3 e3 d3
    rw [fm_map] at d3
    have em : ((List.range (n + 1)).map fun i => led r L T ((i : Nat) : Int)) = (List.range (n + 1)).map fun i => app (eff r L T) ((i : Nat) : Int) := List.map_congr_left fun i hi => ea i (List.mem_range.mp hi)
    have kA : Ex B H3 := g2.k.trans (gr_ex (B := B) (H := H2) g2.k g3.ex).ex
    refine eq_dat (B := H3) (x := (List.range (n + 1)).map fun i => led r L T ((i : Nat) : Int)) (y := (List.range (n + 1)).map fun i => app (eff r L T) ((i : Nat) : Int)) (dtL (SqL.of (g3.ex _ _ (g2.ex _ _ e1'))) das_ints) (dtL (SqL.of e3) (d3.mono g3.k)) (Ex.refl _) (by decide) ?_
    rw [em, decide_eq_true rfl]
    exact k H3 (gr_ex kB ((g.ex).trans ((g2.ex).trans g3.ex)))
  refine b_or1 (t_cmp op_ne (h := ?_))
  walk_at "nm"
  refine e_if (t_cmp op_lt (h := ?_))
  walk_at "E"
  refine ⟨_, _, rfl, rfl, _, rfl, ifd (fun cc => ?_) fun cc => ?_⟩
  · refine e_blt (cr_sum rfl) ms (by decide +kernel) (a_cons (h := ?_))
    walk_at "E"
    refine ⟨_, _, rfl, ex_l k1 hT, ?_⟩
    refine ⟨rfl, _, rfl, iff_ ?_ (s_nil (fin H1 (Gr.refl k1)))⟩
    have e : (eff r L T).s = T.sum := shf_lt cc
    simp [e]
  · walk_at "E"
    refine ⟨rfl, _, rfl, iff_ ?_ (s_nil (fin H1 (Gr.refl k1)))⟩
    have e : (eff r L T).s = 0 := shf_ge cc
    simp [e]
end
end K35
namespace K35
open PySem L2 Evl Lw
open Te
section
variable {P : Program} {w : World} {K : PySem.W.Frag} {mg : Str → Option Value} {base : Heap} {C CV : Addr}
theorem rep_one (x : V) : ∀ n, (List.replicate n [x]).flatten = List.replicate n x
  | 0 => rfl
  | n + 1 => by rw [List.replicate_succ, List.flatten_cons, rep_one x n]; rfl
theorem rep_map (r : Int) (n : Nat) : List.replicate n (V.int r) = (List.replicate n r).map V.int := by rw [List.map_replicate]
theorem cr_cons (r : Int) (T : List Int) : List.replicate (T.length + 1) r = r :: cr r T := rfl
/-! _law_times -/
theorem sc_tim : FnScope ["_law_effect", "_law_width", "_law_number"] ["_law_effect", "_law_width"] (defScope s_tim) := ⟨rfl, rfl, rfl, by decide +kernel, rfl, by decide +kernel, by decide +kernel⟩
def Sm (e : E3) : Prop := e.s.natAbs < 2 ^ 200 ∧ e.l.natAbs < 2 ^ 200 ∧ e.h.natAbs < 2 ^ 200
def sp_tim (K : PySem.W.Frag) : Sp := fun vs H Q _ => ∃ (B : Hp) (v : V) (m : Int) (e : E3), vs = [v, .int m] ∧ Ex B H ∧ Dt K B v e ∧ m.natAbs < 2 ^ 200 ∧ Sm e ∧ RetD K B H Q (sc m e)
theorem ok_tim (mt : mg "tuple" = none) : ∀ f fd, Fun K "_law_times" "_law_times" s_tim f fd → FnOk P w K mg base CX0 1 f fd ["_law_effect", "_law_width"] (sp_tim K) := by
  refine ok_of sc_tim (fun vs H Q E h => by obtain ⟨_, _, _, _, rfl, _⟩ := h; rfl) (fun f cdv A outer s H vs Q E hr h => ?_)
  obtain ⟨B, v, m, e, rfl, kB, hd, hm, hs, k⟩ := h
  obtain ⟨a, rfl, hE⟩ := dt_e3 hd
  refine s_one (s_ret (e_ty call_tuple_of mt bnm_tuple (a_cons (h := e_lc [("_law_number", 2)] sc_tim.nd (ok := blkOk_by (N := ["_law_effect", "_law_width", "_law_number"]) (sc := defScope s_tim) (by decide +kernel)) (h := i_tup ?_)))))
  walk_at "E"
  refine ⟨_, rfl, ⟨_, ex_t kB hE⟩, fun D hD => ?_⟩
  refine lcF (K := K) (xs := [e.s, e.l, e.h]) (fun n => some (m * n)) (walk_tup (K := K) (a := a) (xs := [.int e.s, .int e.l, .int e.h])) kB hD (by show 3 < sizeLine; decide) (fun B' H' g => ex_t (g.b.trans g.k) hE) ?_ ?_
  · rintro i n x B' H' H'' hi g ⟨rfl, hx⟩ KT KF kt kf s0 H0 C0 cl fp
    have hx' : x = .int n ∧ n.natAbs < 2 ^ 200 := by
      match i, hi, hx with
      | 0, hi, hx => cases hi; cases hx; exact ⟨rfl, hs.1⟩
      | 1, hi, hx => cases hi; cases hx; exact ⟨rfl, hs.2.1⟩
      | 2, hi, hx => cases hi; cases hx; exact ⟨rfl, hs.2.2⟩
    obtain ⟨rfl, hn⟩ := hx'
    refine g_name 2 sc_tim.nd (q := ⟨rfl, ?_⟩)
    intro s0 H0 C0 cl fp
    refine ts_nil (ift rfl ?_)
    intro s0 H0 C0 cl fp
    refine e_mul (h := ?_)
    walk_at "E"
    refine ⟨_, _, rfl, rfl, wide_mul (a := 200) (b := 200) hm hn (by decide) (by decide) (by decide), kt _ _ B' _ rfl (Gr.refl g.k) (dtI _)⟩
  intro B1 H1 acc g1 b1 e1 d1
  rw [fm_map] at d1
  have ei := d1.ints
  subst ei
  walk_at "E"
  refine ⟨_, _, rfl, .inl ⟨SqL.of e1, fun p hp => ?_⟩⟩
  exact k _ _ _ (((g1.learn hD b1 e1)).new hp) (dtE (e := sc m e) (SqT.of upd_same))
end
end K35
namespace K35
open PySem L2 Evl Lw
open Te
section
variable {P : Program} {w : World} {K : PySem.W.Frag} {mg : Str → Option Value} {base : Heap} {C CV : Addr}
structure PC (P : Program) (w : World) (K : PySem.W.Frag) (mg : Str → Option Value) (base : Heap) (C CV : Addr) : Prop where
  ml : mg "len" = none
  on : CalX P w K mg base "effect_on" 4 ["size", "turns"] (sp_on K C)
  onK : CalKX P w K mg base "effect_on" 4 ["size", "turns"] ["turns", "size"] perm2 (sp_on K C)
  je : CalX P w K mg base "joined_effect" 4 ["size", "one", "other"] (sp_je K C CV)
  jeK : CalKX P w K mg base "joined_effect" 4 ["size", "one", "other"] ["other", "one", "size"] perm3 (sp_je K C CV)
  re : CalX P w K mg base "repeated_effect" 4 ["size", "effect", "times"] (sp_re K C CV)
  reK : CalKX P w K mg base "repeated_effect" 4 ["size", "effect", "times"] ["times", "effect", "size"] perm3 (sp_re K C CV)
  et : CalX P w K mg base "effect_through" 4 ["sizes", "turns"] (sp_et K C)
  etK : CalKX P w K mg base "effect_through" 4 ["sizes", "turns"] ["turns", "sizes"] perm2 (sp_et K C)
  ise : Cal P w K mg base "_law_is_effect" 2 ["_law_told", "_law_sizes", "_law_turns_here"] (sp_ise K)
  tim : Cal P w K mg base "_law_times" 1 ["_law_effect", "_law_width"] (sp_tim K)
theorem Gr.all {M : Addr → Prop} {B H B' H' : Hp} (g : Gr M B H B' H') : Ex B H' := g.b.trans g.k
theorem rep_k {H : Hp} {Q : VK} {l : Addr} {r k : Int} {n : Nat} (hl : H l = some (.lst [.int r])) (hk : k = (n : Nat)) (hn : n ≤ 10000) (q : ∀ p, H p = none → Q (.ref p) (upd H p (.lst ((List.replicate n r).map V.int)))) : rRep (.ref l) (.int k) H Q := by
  subst hk
  refine ⟨l, (n : Nat), [.int r], rfl, rfl, hl, by omega, by omega, ?_, fun p hp => ?_⟩
  · show 1 * ((n : Nat) : Int).toNat ≤ sizeLine
    exact Nat.le_trans (by omega : _ ≤ 10000) (by decide)
  · rw [rep_one, rep_map]
    exact q p hp
theorem cat_k {H : Hp} {Q : VK} {a o : Addr} {A O : List Int} (ha : H a = some (.lst (A.map V.int))) (ho : H o = some (.lst (O.map V.int))) (hn : A.length + O.length ≤ 10000) (q : ∀ p, H p = none → Q (.ref p) (upd H p (.lst ((A ++ O).map V.int)))) : rCat (.ref a) (.ref o) H Q :=
  ⟨a, o, _, _, rfl, rfl, ha, ho, Nat.le_trans (by rw [List.length_map, List.length_map]; omega : _ ≤ 10000) (by decide), fun p hp => by rw [← List.map_append]; exact q p hp⟩
/-- lists of the law -/
structure Tiny (T : List Int) : Prop where
  len : T.length ≤ 60
  b : ∀ t ∈ T, -5 ≤ t ∧ t ≤ 5
theorem sum_abs {T : List Int} {b : Nat} (h : ∀ t ∈ T, t.natAbs ≤ b) : T.sum.natAbs ≤ b * T.length := by
  induction T with
  | nil => exact Nat.zero_le _
  | cons t T ih =>
    have h1 := h t List.mem_cons_self
    have h2 := ih fun x hx => h x (List.mem_cons_of_mem _ hx)
    rw [List.sum_cons, List.length_cons, Nat.mul_add, Nat.mul_one]
    omega
theorem va_sm {r : Int} {e : E3} (v : Va r e) (h' : r < 10000000000000000000000000000000) : Sm e := by
  have e200 : (2 : Nat) ^ 200 = 1606938044258990275541962092341162602522202993782792835301376 := by decide
  have h1 := v.l0
  have h2 := v.lh
  have h3 := v.hr
  unfold Sm
  rw [e200]
  by_cases c : e.l < e.h
  · have := v.s0 c
    omega
  · have := v.s1 (by omega)
    omega
/-! _law_single_right -/
abbrev N_sr : List Str := ["_law_size", "_law_one", "_law_other", "_law_width", "_law_first", "_law_second", "_law_both", "_law_turn"]
theorem sc_sr : FnScope N_sr ["_law_size", "_law_one", "_law_other", "_law_width"] (defScope s_sr) := ⟨rfl, rfl, rfl, by decide +kernel, rfl, by decide +kernel, by decide +kernel⟩
def sp_sr (K : PySem.W.Frag) : Sp := fun vs H Q _ => ∃ (B : Hp) (v v2 : V) (r m : Int) (A O : List Int) (a o : Addr), vs = [.int r, .ref a, .ref o, .int m] ∧ Ex B H ∧ B a = some (.lst (A.map V.int)) ∧ B o = some (.lst (O.map V.int)) ∧ Tiny A ∧ Tiny O ∧ 0 ≤ r ∧ r ≤ 7 ∧ 1 ≤ m ∧ m ≤ 20000000000000000000000000 ∧ ∀ H', Gr M0 B H B H' → Q (.bl true) H'
theorem ok_sr (S : PC P w K mg base C CV) : ∀ f fd, Fun K "_law_single_right" "_law_single_right" s_sr f fd → FnOk P w K mg base CX0 5 f fd ["_law_size", "_law_one", "_law_other", "_law_width"] (sp_sr K) := by
  refine ok_of sc_sr (fun vs H Q E h => by obtain ⟨_, _, _, _, _, _, _, _, _, rfl, _⟩ := h; rfl) (fun f cdv A0 outer s H vs Q E hr h => ?_)
  obtain ⟨B, _, _, r, m, A, O, a, o, rfl, kB, ha, ho, tA, tO, r0, r7, m0, m1, k⟩ := h
  have dA : Dt K B (.ref a) A := dtLI (SqL.of ha)
  have dO : Dt K B (.ref o) O := dtLI (SqL.of ho)
  have lA := tA.len
  have lO := tO.len
  refine s_cons (s_par 4 5 sc_sr.nd (h := a_cons (h := e_callX S.on takes0 hr (h := ?_))))
  walk_at "E"
  refine ⟨B, _, r, A, rfl, kB, dA, by omega, fun _ v1 B1 H1 g1 d1 => ?_, fun z => absurd z (by omega)⟩
  refine a_cons (h := e_callKX S.onK hr (h := ?_))
  walk_at "E"
  refine ⟨rfl, rfl, B1, _, r, O, rfl, g1.k, dO.mono g1.b, by omega, fun _ v2 B2 H2 g2 d2 => ?_, fun z => absurd z (by omega)⟩
  refine a_nil ⟨_, _, rfl, ?_⟩
  have gA := g1.trans g2
  have d1' := d1.mono g2.b
  have V1 : Va r (effC r A) := effC_V r0 A
  have V2 : Va r (effC r O) := effC_V r0 O
  -- first
  refine s_cons (s_if (t_not (t_val (e_call S.ise (hr.mono (by decide)) (h := ?_)))))
  walk_at "E"
  refine e_bin op_rep (h := e_lst ?_)
  walk_at "E"
  refine ⟨by show 1 ≤ sizeLine; decide, fun p hp => ?_⟩
  refine e_add (h := e_blt call_len_seq S.ml PySem.boot_len ?_)
  walk_at "E"
  have gB := gA.own (o := .lst [.int r]) hp
  have eB : (upd H2 p (.lst [.int r])) p = some (.lst [.int r]) := upd_same
  generalize upd H2 p (HO.lst [.int r]) = H3 at *
  refine ⟨_, _, rfl, .inl (ex_l (Gr.all gB) (SqL.of ha)), ?_⟩
  walk_at "E"
  walk_at "ii"
  refine rep_k (n := A.length + 1) eB (by rw [List.length_map]; rfl) (by omega) fun q hq => ?_
  have gC := gB.new (o := .lst ((List.replicate (A.length + 1) r).map V.int)) hq
  walk_at "E"
  have dC : Dt K (upd B2 q (.lst ((List.replicate (A.length + 1) r).map V.int))) (.ref q) (r :: cr r A) := dtLI (SqL.of upd_same)
  refine ⟨_, _, _, _, r, cr r A, A, rfl, gC.k, d1'.mono ((Gr.refl (M := M0) gB.k).new hq).b, dC, dA.mono gC.b, cr_len r A, r0, by omega, fun l hl => by rw [cr_mem hl]; exact r0, fun H4 g4 => ⟨_, rfl, iff_ rfl (s_nil ?_)⟩⟩
  have gD := gC.trans g4
  have d1C := d1'.mono ((Gr.refl (M := M0) gB.k).new (o := .lst ((List.replicate (A.length + 1) r).map V.int)) hq).b
  have d2C := d2.mono ((Gr.refl (M := M0) gB.k).new (o := .lst ((List.replicate (A.length + 1) r).map V.int)) hq).b
  clear dC
  generalize upd B2 q (HO.lst ((List.replicate (A.length + 1) r).map V.int)) = B3 at *
  -- second
  refine s_cons (s_if (t_not (t_val (e_call S.ise (hr.mono (by decide)) (h := ?_)))))
  walk_at "E"
  refine e_bin op_rep (h := e_lst ?_)
  walk_at "E"
  refine ⟨by show 1 ≤ sizeLine; decide, fun p2 hp2 => ?_⟩
  refine e_add (h := e_blt call_len_seq S.ml PySem.boot_len ?_)
  walk_at "E"
  have gE := gD.own (o := .lst [.int r]) hp2
  have eE : (upd H4 p2 (.lst [.int r])) p2 = some (.lst [.int r]) := upd_same
  generalize upd H4 p2 (HO.lst [.int r]) = H5 at *
  refine ⟨_, _, rfl, .inl (ex_l (Gr.all gE) (SqL.of ho)), ?_⟩
  walk_at "E"
  walk_at "ii"
  refine rep_k (n := O.length + 1) eE (by rw [List.length_map]; rfl) (by omega) fun q2 hq2 => ?_
  have gF := gE.new (o := .lst ((List.replicate (O.length + 1) r).map V.int)) hq2
  walk_at "E"
  have xF := ((Gr.refl (M := M0) gE.k).new (o := .lst ((List.replicate (O.length + 1) r).map V.int)) hq2).b
  have dF : Dt K (upd B3 q2 (.lst ((List.replicate (O.length + 1) r).map V.int))) (.ref q2) (r :: cr r O) := dtLI (SqL.of upd_same)
  refine ⟨_, _, _, _, r, cr r O, O, rfl, gF.k, d2C.mono xF, dF, dO.mono gF.b, cr_len r O, r0, by omega, fun l hl => by rw [cr_mem hl]; exact r0, fun H6 g6 => ⟨_, rfl, iff_ rfl (s_nil ?_)⟩⟩
  have gG := gF.trans g6
  have d1G := d1C.mono xF
  have d2G := d2C.mono xF
  clear dF xF
  generalize upd B3 q2 (HO.lst ((List.replicate (O.length + 1) r).map V.int)) = B4 at *
  -- both
  have ej : joinE (effC r A) (effC r O) = effC r (A ++ O) := effC_join r0 A O
  refine s_cons (s_set 6 sc_sr.nd (h := e_callX S.je takes0 hr (h := ?_)))
  walk_at "E"
  refine ⟨_, _, _, r, _, _, rfl, gG.k, d1G, d2G, fun z => absurd z (by omega), fun _ z => absurd V1 z, fun _ z => absurd V2 z, fun _ _ v3 B5 H7 g7 d3 => ?_⟩
  rw [ej] at d3
  have gH := gG.trans g7
  have d1H := d1G.mono g7.b
  have d2H := d2G.mono g7.b
  refine s_cons (s_if (t_not (t_val (e_call S.ise (hr.mono (by decide)) (h := ?_)))))
  walk_at "E"
  refine e_bin op_rep (h := e_lst ?_)
  walk_at "E"
  refine ⟨by show 1 ≤ sizeLine; decide, fun p3 hp3 => ?_⟩
  have gI := gH.own (o := .lst [.int r]) hp3
  have eI : (upd H7 p3 (.lst [.int r])) p3 = some (.lst [.int r]) := upd_same
  generalize upd H7 p3 (HO.lst [.int r]) = H8 at *
  refine e_add (h := e_blt call_len_seq S.ml PySem.boot_len (a_cons (h := e_bin op_cat (h := ?_))))
  walk_at "E"
  refine cat_k ((Gr.all gI) _ _ ha) ((Gr.all gI) _ _ ho) (by omega) fun p4 hp4 => ?_
  have gJ := gI.own (o := .lst ((A ++ O).map V.int)) hp4
  have eJ : (upd H8 p4 (.lst ((A ++ O).map V.int))) p3 = some (.lst [.int r]) := by rw [upd_ne (ne_of_none eI hp4)]; exact eI
  have eK : (upd H8 p4 (.lst ((A ++ O).map V.int))) p4 = some (.lst ((A ++ O).map V.int)) := upd_same
  generalize upd H8 p4 (HO.lst ((A ++ O).map V.int)) = H9 at *
  walk_at "E"
  refine ⟨_, _, rfl, .inl (SqL.of eK), ?_⟩
  walk_at "E"
  walk_at "ii"
  refine rep_k (n := (A ++ O).length + 1) eJ (by rw [List.length_map]; rfl) (by rw [List.length_append]; omega) fun q3 hq3 => ?_
  have gK := gJ.new (o := .lst ((List.replicate ((A ++ O).length + 1) r).map V.int)) hq3
  have xK := ((Gr.refl (M := M0) gJ.k).new (o := .lst ((List.replicate ((A ++ O).length + 1) r).map V.int)) hq3).b
  have dK : Dt K (upd B5 q3 (.lst ((List.replicate ((A ++ O).length + 1) r).map V.int))) (.ref q3) (r :: cr r (A ++ O)) := dtLI (SqL.of upd_same)
  have d3K := d3.mono xK
  have d1K := d1H.mono xK
  have d2K := d2H.mono xK
  generalize upd B5 q3 (HO.lst ((List.replicate ((A ++ O).length + 1) r).map V.int)) = B6 at *
  generalize upd H9 q3 (HO.lst ((List.replicate ((A ++ O).length + 1) r).map V.int)) = H10 at *
  refine a_cons (h := e_bin op_cat (h := ?_))
  walk_at "E"
  refine cat_k ((Gr.all gK) _ _ ha) ((Gr.all gK) _ _ ho) (by omega) fun p5 hp5 => ?_
  have gL := gK.new (o := .lst ((A ++ O).map V.int)) hp5
  have xL := ((Gr.refl (M := M0) gK.k).new (o := .lst ((A ++ O).map V.int)) hp5).b
  have dL : Dt K (upd B6 p5 (.lst ((A ++ O).map V.int))) (.ref p5) (A ++ O) := dtLI (SqL.of upd_same)
  refine a_nil ⟨_, _, _, _, r, cr r (A ++ O), A ++ O, rfl, gL.k, d3K.mono xL, dK.mono xL, dL, cr_len r _, r0, by omega, fun l hl => by rw [cr_mem hl]; exact r0, fun H11 g11 => ⟨_, rfl, iff_ rfl (s_nil ?_)⟩⟩
  have gM := gL.trans g11
  have d3M := d3K.mono xL
  have d1M := d1K.mono xL
  have d2M := d2K.mono xL
  clear dL xL dK xK
  generalize upd B6 p5 (HO.lst ((A ++ O).map V.int)) = B7 at *
  clear gL gK gJ gI gG gF gE gD gC gB
  -- by names
  refine s_cons (s_if (t_cmp (op_neD hr.units) (h := e_callKX S.jeK hr (h := ?_))))
  walk_at "E"
  refine ⟨rfl, rfl, _, _, _, r, _, _, rfl, gM.k, d1M, d2M, fun z => absurd z (by omega), fun _ z => absurd V1 z, fun _ z => absurd V2 z, fun _ _ v4 B8 H12 g12 d4 => ?_⟩
  rw [ej] at d4
  walk_at "E"
  refine ne_dat (B := B8) (x := effC r (A ++ O)) (y := effC r (A ++ O)) d4 (d3M.mono g12.b) g12.k (by decide) ⟨_, rfl, iff_ (by simp) (s_nil ?_)⟩
  have gN := gM.trans g12
  have d3N := d3M.mono g12.b
  have d1N := d1M.mono g12.b
  have d2N := d2M.mono g12.b
  clear d1M d2M d3M d4 gM
  -- great ones
  have hm : m.natAbs < 2 ^ 200 := by
    have e200 : (2 : Nat) ^ 200 = 1606938044258990275541962092341162602522202993782792835301376 := by decide
    rw [e200]; omega
  have small : ∀ {x : Int}, -1000 ≤ x → x ≤ 1000 → CMulW m x := fun h1 h2 => by
    have e200 : (2 : Nat) ^ 200 = 1606938044258990275541962092341162602522202993782792835301376 := by decide
    exact wide_mul (a := 200) (b := 200) hm (by rw [e200]; omega) (by decide) (by decide) (by decide)
  have W1 : Va (m * r) (sc m (effC r A)) := V_sc (by omega) V1
  have W2 : Va (m * r) (sc m (effC r O)) := V_sc (by omega) V2
  have mr0 : 0 ≤ m * r := W1.r0
  refine s_cons (s_if (t_cmp (op_neD hr.units) (h := e_callX S.on takes0 hr (h := a_cons (h := e_mul (h := ?_))))))
  walk_at "E"
  refine ⟨_, _, rfl, rfl, small (by omega) (by omega), ?_⟩
  refine a_cons (h := e_lc [("_law_turn", 7)] sc_sr.nd (ok := blkOk_by (N := N_sr) (sc := defScope s_sr) (by decide +kernel)) (h := i_list ?_))
  walk_at "E"
  refine ⟨_, rfl, ⟨_, ex_l (Gr.all gN) (SqL.of ha)⟩, fun D hD => lcI (K := K) (fun t => some (m * t)) (ex_l (Gr.all gN) (SqL.of ha)) gN.k hD (Nat.lt_of_le_of_lt lA (by decide)) ?_ ?_⟩
  · intro i y B' H' hy g KT KF kt kf s0 H0 C0 cl fp
    have hb := tA.b y (List.mem_of_getElem? hy)
    refine g_name 7 sc_sr.nd (q := ⟨rfl, ?_⟩)
    intro s0 H0 C0 cl fp
    refine ts_nil (ift rfl ?_)
    intro s0 H0 C0 cl fp
    refine e_mul (h := ?_)
    walk_at "E"
    exact ⟨_, _, rfl, rfl, small (by omega) (by omega), kt _ _ B' _ rfl (Gr.refl g.k) (dtI _)⟩
  intro B9 H13 acc g13 b13 e13 d13
  rw [fm_map] at d13
  have gO := g13.learn hD b13 e13
  have xO := gO.b
  have dD : Dt K (upd B9 D (.lst acc)) (.ref D) (A.map fun t => m * t) := dtL (SqL.of upd_same) (d13.mono (Ex.new b13))
  generalize upd B9 D (HO.lst acc) = B10 at *
  walk_at "E"
  refine ⟨_, _, m * r, A.map fun t => m * t, rfl, gO.k, dD, by rw [List.length_map]; omega, fun _ v5 B11 H14 g14 d14 => ?_, fun z => absurd z (by omega)⟩
  rw [show effC (m * r) (A.map fun t => m * t) = sc m (effC r A) from effC_sc (by omega) r A] at d14
  refine e_call S.tim (hr.mono (by decide)) (h := ?_)
  walk_at "E"
  have gP := (gN.trans gO).trans g14
  have xP := xO.trans g14.b
  refine ⟨_, _, m, _, rfl, gP.k, d1N.mono xP, hm, va_sm V1 (by omega), fun v6 B12 H15 g15 d15 => ?_⟩
  refine ne_dat (B := B12) (x := sc m (effC r A)) (y := sc m (effC r A)) (d14.mono g15.b) d15 g15.k (by decide) ⟨_, rfl, iff_ (by simp) (s_nil ?_)⟩
  have gQ := gP.trans g15
  have xQ := xP.trans g15.b
  have d1Q := d1N.mono xQ
  have d2Q := d2N.mono xQ
  have d3Q := d3N.mono xQ
  clear d1N d2N d3N d13 d14 d15 gP xP
  -- joined great ones
  refine s_one (s_ret (e_cmp (op_eqD hr.units) (h := e_callX S.je takes0 hr (h := a_cons (h := e_mul (h := ?_))))))
  walk_at "E"
  refine ⟨_, _, rfl, rfl, small (by omega) (by omega), ?_⟩
  refine a_cons (h := e_call S.tim (hr.mono (by decide)) (h := ?_))
  walk_at "E"
  refine ⟨_, _, m, _, rfl, gQ.k, d1Q, hm, va_sm V1 (by omega), fun v7 B13 H16 g16 d16 => ?_⟩
  refine a_cons (h := e_call S.tim (hr.mono (by decide)) (h := ?_))
  walk_at "E"
  refine ⟨_, _, m, _, rfl, g16.k, d2Q.mono g16.b, hm, va_sm V2 (by omega), fun v8 B14 H17 g17 d17 => ?_⟩
  walk_at "E"
  have g17' := g16.trans g17
  refine ⟨_, _, _, m * r, _, _, rfl, g17.k, d16.mono g17.b, d17, fun z => absurd z (by omega), fun _ z => absurd W1 z, fun _ z => absurd W2 z, fun _ _ v9 B15 H18 g18 d18 => ?_⟩
  rw [join_sc (by omega), ej] at d18
  refine e_call S.tim (hr.mono (by decide)) (h := ?_)
  walk_at "E"
  have g18' := g17'.trans g18
  refine ⟨_, _, m, _, rfl, g18.k, d3Q.mono g18'.b, hm, va_sm (effC_V r0 (A ++ O)) (by omega), fun v10 B16 H19 g19 d19 => ?_⟩
  refine eq_dat (B := B16) (x := sc m (effC r (A ++ O))) (y := sc m (effC r (A ++ O))) (d18.mono g19.b) d19 g19.k (by decide) ?_
  rw [decide_eq_true rfl]
  exact k _ (gr_ex kB ((gQ.trans g18').trans g19).ex)
end
end K35
namespace K35
open PySem L2 Evl Lw
open Te
section
variable {P : Program} {w : World} {K : PySem.W.Frag} {mg : Str → Option Value} {base : Heap} {C CV : Addr}
theorem Gr.low {M : Addr → Prop} {B H B' H' : Hp} (g : Gr M B H B' H') : Gr M B H B H' := ⟨.refl B, g.b.trans g.k, g.h, g.n, fun _ h _ => h⟩
theorem Jk.low {B H B' H' : Hp} {d : Addr} {n m l : Nat} (j0 : Jk B H d n) (g : Gr (Md d) B H B' H') (j : Jk B' H' d m) (h : l ≤ m) : Jk B H' d l := ⟨g.b.trans g.k, j0.b, j.at_.le h⟩
/-! _law_through_right -/
abbrev N_tr : List Str := ["_law_jug_here", "_law_width", "_law_turns_here", "_law_sizes", "_law_told", "_law_great", "_law_same", "_law_turn", "_law_size"]
theorem sc_tr : FnScope N_tr ["_law_jug_here", "_law_width"] (defScope s_tr) := ⟨rfl, rfl, rfl, by decide +kernel, rfl, by decide +kernel, by decide +kernel⟩
def sp_tr : Sp := fun vs H Q _ => ∃ (B : Hp) (d : Addr) (m : Int) (n : Nat), vs = [.ref d, .int m] ∧ Jk B H d (n + 1000) ∧ 1 ≤ m ∧ m ≤ 20000000000000000000000000 ∧ ∀ H', Gr (Md d) B H B H' → Jk B H' d n → Q (.bl true) H'
theorem led_small {M : Int} {L T : List Int} {r x : Int} (L0 : ∀ l ∈ L, 0 ≤ l ∧ l ≤ M) (x0 : 0 ≤ x) (x1 : x ≤ M) : 0 ≤ led r L T x ∧ led r L T x ≤ M := ⟨led_ge (fun l hl => (L0 l hl).1) x0, led_le (fun l hl => (L0 l hl).2) x1⟩
theorem sm_eff {L T : List Int} {r : Int} (tT : Tiny T) (L0 : ∀ l ∈ L, 0 ≤ l ∧ l ≤ 7) (r0 : 0 ≤ r) (r7 : r ≤ 7) : Sm (eff r L T) := by
  have e200 : (2 : Nat) ^ 200 = 1606938044258990275541962092341162602522202993782792835301376 := by decide
  have a := led_small (r := r) (T := T) L0 (Int.le_refl 0) (by omega : (0 : Int) ≤ 7)
  have b := led_small (r := r) (T := T) L0 r0 r7
  have c := sum_abs (T := T) (b := 5) fun t ht => by have := tT.b t ht; omega
  have := tT.len
  unfold Sm
  rw [e200]
  refine ⟨?_, ?_, ?_⟩
  · show (shf T.sum _ _).natAbs < _
    unfold shf
    split <;> omega
  · show (led r L T 0).natAbs < _
    omega
  · show (led r L T r).natAbs < _
    omega
theorem ok_tr (S : PC P w K mg base C CV) (e0 : Cal P w K mg base "_law_pour" 1 ["_law_jug_here", "_law_many"] sp_pour) (et : Cal P w K mg base "_law_turns" 2 ["_law_jug_here", "_law_most", "_law_size"] (sp_turns K)) :
    ∀ f fd, Fun K "_law_through_right" "_law_through_right" s_tr f fd → FnOk P w K mg base CX0 5 f fd ["_law_jug_here", "_law_width"] sp_tr := by
  refine ok_of sc_tr (fun vs H Q E h => by obtain ⟨_, _, _, _, rfl, _⟩ := h; rfl) (fun f cdv A0 outer s H vs Q E hr h => ?_)
  obtain ⟨B, d, m, n, rfl, j0, m0, m1, k⟩ := h
  refine s_cons (s_set 2 sc_tr.nd (h := e_call et (hr.mono (by decide)) (h := ?_)))
  walk_at "E"
  refine ⟨B, d, 6, 5, n + 900, rfl, j0.le (by omega), by decide, by decide, by decide, by decide, ?_⟩
  rintro _ T B1 H1 g1 j1 ⟨a, rfl, ha⟩ lT bT
  have tT : Tiny T := ⟨lT, bT⟩
  have dT : Dt K B1 (.ref a) T := dtLI (SqL.of ha)
  -- sizes
  refine s_cons (s_set 3 sc_tr.nd (h := e_bin op_cat (h := e_lc [("_law_turn", 7)] sc_tr.nd (ok := blkOk_by (N := N_tr) (sc := defScope s_tr) (by decide +kernel)) (h := i_list ?_))))
  walk_at "E"
  refine ⟨_, rfl, ⟨_, SqL.of (j1.k _ _ ha)⟩, fun D hD => lcPour 1 (m := n + 700) (walk_list (K := K) (a := a) (xs := T.map V.int)) (fun z => 0 ≤ z ∧ z < 8) (j1.le (by rw [List.length_map]; omega)) hD (Nat.lt_of_le_of_lt (by rw [List.length_map]; exact lT) (by decide)) (fun B' H' q g _ => SqL.of (g.k _ _ (g.b _ _ ha))) ?_ ?_⟩
  · rintro i q x B' H' H'' hi g j' ⟨rfl, hx⟩ KT KF kt s0 H0 C0 cl fp
    refine g_name 7 sc_tr.nd (q := ⟨rfl, ?_⟩)
    intro s0 H0 C0 cl fp
    refine ts_nil (ift rfl ?_)
    intro s0 H0 C0 cl fp
    refine e_call e0 (hr.mono (by decide)) (h := ?_)
    walk_at "E"
    refine pour_k j' (by decide) (by decide) fun r H4 r0 r1 g4 j4 => ?_
    exact kt _ B' H4 g4 j4 ⟨r0, r1⟩
  intro B2 H2 ns g2 j2 b2 eD hl hp_
  rw [List.length_map] at hl
  have hD1 : B1 D = none := none_of_ex j1.k hD
  have nD : d ≠ D := j1.at_.ne hD
  refine e_lst (a_cons (h := e_call e0 (hr.mono (by decide)) (h := ?_)))
  walk_at "E"
  refine pour_k (n := n + 699) (j2.le (by omega)) (by decide) (by decide) fun x H3 x0 x1 g3 j3 => ?_
  have eD3 := g3.h _ _ (fun z => nD z.symm) eD
  refine a_nil ⟨by show 1 ≤ sizeLine; decide, fun p hp => ?_⟩
  have g4 := (g2.trans g3).own (o := .lst [.int x]) hp
  have eD4 : (upd H3 p (.lst [.int x])) D = some (.lst (ns.map V.int)) := by rw [upd_ne (ne_of_none eD3 hp)]; exact eD3
  have eP4 : (upd H3 p (.lst [.int x])) p = some (.lst (([x] : List Int).map V.int)) := upd_same
  have j4 := j3.own (o := .lst [.int x]) hp
  generalize upd H3 p (HO.lst [.int x]) = H4 at *
  refine cat_k eD4 eP4 (by show ns.length + 1 ≤ 10000; omega) fun q hq => ?_
  obtain ⟨r, L, eL, lL, r0, r7, L0⟩ : ∃ r L, ns ++ [x] = r :: L ∧ L.length = T.length ∧ 0 ≤ r ∧ r ≤ 7 ∧ ∀ l ∈ L, 0 ≤ l ∧ l ≤ 7 := by
    have all : ∀ l ∈ ns ++ [x], 0 ≤ l ∧ l ≤ 7 := fun l hl => by
      rcases List.mem_append.mp hl with h | h
      · have := hp_ l h; omega
      · rw [List.mem_singleton.mp h]; omega
    have hlen : (ns ++ [x]).length = T.length + 1 := by rw [List.length_append, hl]; rfl
    cases e : ns ++ [x] with
    | nil => rw [e] at hlen; cases hlen
    | cons r L =>
      rw [e] at all hlen
      have h1 := all r List.mem_cons_self
      exact ⟨r, L, rfl, Nat.succ.inj hlen, h1.1, h1.2, fun l hl => all l (List.mem_cons_of_mem _ hl)⟩
  rw [eL]
  have gA := (g1.trans g4).new (o := .lst ((r :: L).map V.int)) hq
  have x4 : Ex B1 (upd B2 q (.lst ((r :: L).map V.int))) := g2.b.trans ((Gr.refl (M := M0) j4.k).new hq).b
  have j5 := j4.new (o := .lst ((r :: L).map V.int)) hq
  have eS : (upd B2 q (.lst ((r :: L).map V.int))) q = some (.lst ((r :: L).map V.int)) := upd_same
  have dS : Dt K (upd B2 q (.lst ((r :: L).map V.int))) (.ref q) (r :: L) := dtLI (SqL.of eS)
  have dT4 := dT.mono x4
  generalize upd B2 q (HO.lst ((r :: L).map V.int)) = B5 at *
  generalize upd H4 q (HO.lst ((r :: L).map V.int)) = H5 at *
  have S0 : ∀ z ∈ (r :: L), (0 : Int) ≤ z := fun z hz => by
    rcases List.mem_cons.mp hz with rfl | h
    · exact r0
    · exact (L0 z h).1
  have no1 : ∀ {C0 : Addr} {H0 : Hp} {E0 : XK} (S : List Int), (∀ z ∈ S, (0 : Int) ≤ z) → (∀ (i : Nat) (x : Int), S[i]? = some x → x < 0 → (∀ (j : Nat) (y : Int), j < i → S[j]? = some y → 0 ≤ y) → Rai C0 H0 E0 x) := fun S h i x hx hn _ => absurd hn (by have := h x (List.mem_of_getElem? hx); omega)
  -- told
  refine s_cons (s_set 4 sc_tr.nd (h := e_callX S.et takes0 hr (h := ?_)))
  walk_at "E"
  refine ⟨B5, _, _, r :: L, T, rfl, j5.k, dS, dT4, no1 _ S0, fun _ z => absurd (by rw [List.length_cons, lL]; omega) z, ?_⟩
  intro r' L' e' _ _ v1 B6 H6 g6 d6
  cases e'
  have gB := gA.trans g6.up
  have j6 := j5.gr g6
  have dS6 := dS.mono g6.b
  have dT6 := dT4.mono g6.b
  refine s_cons (s_if (t_not (t_val (e_call S.ise (hr.mono (by decide)) (h := ?_)))))
  walk_at "E"
  refine ⟨B6, _, _, _, r, L, T, rfl, j6.k, d6, dS6, dT6, lL, r0, by omega, fun l hl => (L0 l hl).1, fun H7 g7 => ⟨_, rfl, iff_ rfl (s_nil ?_)⟩⟩
  have gC := gB.trans g7.up
  have j7 := j6.gr g7
  have dS7 := dS6.mono g7.b
  have dT7 := dT6.mono g7.b
  have d7 := d6.mono g7.b
  have sm := sm_eff tT L0 r0 r7
  have hm : m.natAbs < 2 ^ 200 := by
    have e200 : (2 : Nat) ^ 200 = 1606938044258990275541962092341162602522202993782792835301376 := by decide
    rw [e200]; omega
  have small : ∀ {x : Int}, -1000 ≤ x → x ≤ 1000 → CMulW m x := fun h1 h2 => by
    have e200 : (2 : Nat) ^ 200 = 1606938044258990275541962092341162602522202993782792835301376 := by decide
    exact wide_mul (a := 200) (b := 200) hm (by rw [e200]; omega) (by decide) (by decide) (by decide)
  -- great ones
  obtain ⟨_, eq7, hS7⟩ := dt_ints dS7
  cases eq7
  obtain ⟨_, ea7, hT7⟩ := dt_ints dT7
  cases ea7
  have lS : (r :: L).length ≤ 61 := by rw [List.length_cons]; omega
  refine s_cons (s_set 5 sc_tr.nd (h := e_tup (a_cons (h := e_lc [("_law_size", 8)] sc_tr.nd (ok := blkOk_by (N := N_tr) (sc := defScope s_tr) (by decide +kernel)) (h := i_list ?_)))))
  walk_at "E"
  refine ⟨_, rfl, ⟨_, ex_l g7.k hS7⟩, fun D hD => lcI (K := K) (fun t => some (m * t)) (ex_l g7.k hS7) g7.k hD (Nat.lt_of_le_of_lt lS (by decide)) ?_ ?_⟩
  · intro i y B' H' hy g KT KF kt kf s0 H0 C0 cl fp
    have hb : 0 ≤ y ∧ y ≤ 7 := by
      rcases List.mem_cons.mp (List.mem_of_getElem? hy) with rfl | h
      · exact ⟨r0, r7⟩
      · exact L0 y h
    refine g_name 8 sc_tr.nd (q := ⟨rfl, ?_⟩)
    intro s0 H0 C0 cl fp
    refine ts_nil (ift rfl ?_)
    intro s0 H0 C0 cl fp
    refine e_mul (h := ?_)
    walk_at "E"
    exact ⟨_, _, rfl, rfl, small (by omega) (by omega), kt _ _ B' _ rfl (Gr.refl g.k) (dtI _)⟩
  intro B8 H8 acc g8 b8 e8 d8
  rw [fm_map] at d8
  have gD := g8.learn hD b8 e8
  have dD : Dt K (upd B8 D (.lst acc)) (.ref D) ((r :: L).map fun t => m * t) := dtL (SqL.of upd_same) (d8.mono (Ex.new b8))
  have ei := d8.ints
  subst ei
  generalize upd B8 D (HO.lst (((r :: L).map fun t => m * t).map V.int)) = B9 at *
  refine a_cons (h := e_lc [("_law_turn", 7)] sc_tr.nd (ok := blkOk_by (N := N_tr) (sc := defScope s_tr) (by decide +kernel)) (h := i_list ?_))
  walk_at "E"
  have hT8 := ex_l (gD.b.trans gD.k) hT7
  refine ⟨_, rfl, ⟨_, hT8⟩, fun D2 hD2 => lcI (K := K) (fun t => some (m * t)) hT8 gD.k hD2 (Nat.lt_of_le_of_lt lT (by decide)) ?_ ?_⟩
  · intro i y B' H' hy g KT KF kt kf s0 H0 C0 cl fp
    have hb := bT y (List.mem_of_getElem? hy)
    refine g_name 7 sc_tr.nd (q := ⟨rfl, ?_⟩)
    intro s0 H0 C0 cl fp
    refine ts_nil (ift rfl ?_)
    intro s0 H0 C0 cl fp
    refine e_mul (h := ?_)
    walk_at "E"
    exact ⟨_, _, rfl, rfl, small (by omega) (by omega), kt _ _ B' _ rfl (Gr.refl g.k) (dtI _)⟩
  intro B10 H10 acc2 g10 b10 e10 d10
  rw [fm_map] at d10
  have gE := gD.trans (g10.learn hD2 b10 e10)
  have dD10 := dD.mono (g10.learn hD2 b10 e10).b
  have dD2 : Dt K (upd B10 D2 (.lst acc2)) (.ref D2) (T.map fun t => m * t) := dtL (SqL.of upd_same) (d10.mono (Ex.new b10))
  generalize upd B10 D2 (HO.lst acc2) = B11 at *
  refine a_nil ⟨by show 2 ≤ sizeLine; decide, fun G hG => ?_⟩
  have gF := gE.new (o := .tup [.ref D, .ref D2]) hG
  have xF := ((Gr.refl (M := M0) gE.k).new (o := .tup [.ref D, .ref D2]) hG).b
  have eG : (upd B11 G (.tup [.ref D, .ref D2])) G = some (.tup [.ref D, .ref D2]) := upd_same
  have dDF := dD10.mono xF
  have dD2F := dD2.mono xF
  generalize upd B11 G (HO.tup [.ref D, .ref D2]) = B12 at *
  generalize upd H10 G (HO.tup [.ref D, .ref D2]) = H12 at *
  have hGT : SqT K H12 G [.ref D, .ref D2] := SqT.of (gF.k _ _ eG)
  refine s_cons (s_if (t_cmp (op_neD hr.units) (h := e_callKX S.etK hr (h := ?_))))
  walk_at "E"
  refine e_ixT (h := ?_)
  walk_at "E"
  refine ⟨G, _, 1, _, rfl, rfl, hGT, rfl, ?_⟩
  walk_at "E"
  refine e_ixT (h := ?_)
  walk_at "E"
  refine ⟨G, _, 0, _, rfl, rfl, hGT, rfl, ?_⟩
  walk_at "E"
  have S0' : ∀ z ∈ ((r :: L).map fun t => m * t), (0 : Int) ≤ z := fun z hz => by
    obtain ⟨y, hy, rfl⟩ := List.mem_map.mp hz
    exact Int.mul_nonneg (by omega) (S0 y hy)
  refine ⟨rfl, rfl, B12, _, _, _, _, rfl, gF.k, dDF, dD2F, no1 _ S0', fun _ z => absurd (by rw [List.length_map, List.length_map, List.length_cons, lL]; omega) z, ?_⟩
  intro r' L' e' _ _ v2 B13 H13 g13 d13
  rw [List.map_cons] at e'
  cases e'
  rw [show eff (m * r) (L.map fun t => m * t) (T.map fun t => m * t) = sc m (eff r L T) from eff_sc (by omega) r L T] at d13
  have gG := gF.trans g13
  refine e_call S.tim (hr.mono (by decide)) (h := ?_)
  walk_at "E"
  refine ⟨_, _, m, _, rfl, gG.k, d7.mono gG.b, hm, sm, fun v3 B14 H14 g14 d14 => ?_⟩
  refine ne_dat (B := B14) (x := sc m (eff r L T)) (y := sc m (eff r L T)) (d13.mono g14.b) d14 g14.k (by decide) ⟨_, rfl, iff_ (by simp) (s_nil ?_)⟩
  have gH := gG.trans g14
  have dT14 := dT7.mono gH.b
  have dD14 : SqL K B14 D (((r :: L).map fun t => m * t).map V.int) := by
    obtain ⟨_, e0, h0⟩ := dt_ints (dDF.mono (g13.trans g14).b)
    cases e0
    exact h0
  have eG14 : SqT K B14 G [.ref D, .ref D2] := SqT.of ((g13.trans g14).b _ _ eG)
  have hS14 := ex_l gH.b hS7
  have jz := j7.gr gH
  have gZ := gC.trans gH.up
  clear gG g13 g14 d13 d14 dDF dD2F gF hGT eG
  -- sevens
  refine s_cons (s_set 6 sc_tr.nd (h := e_callX S.et takes0 hr (h := a_cons (h := e_bin op_rep (h := e_lst ?_)))))
  walk_at "E"
  refine ⟨by show 1 ≤ sizeLine; decide, fun p3 hp3 => ?_⟩
  refine e_add (h := e_blt call_len_seq S.ml PySem.boot_len ?_)
  walk_at "E"
  have gI := (Gr.refl (M := M0) gH.k).own (o := .lst [.int 7]) hp3
  have eI : (upd H14 p3 (.lst [.int 7])) p3 = some (.lst [.int 7]) := upd_same
  generalize upd H14 p3 (HO.lst [.int 7]) = H15 at *
  obtain ⟨_, ea14, hT14⟩ := dt_ints dT14
  cases ea14
  refine ⟨_, _, rfl, .inl (ex_l gI.k hT14), ?_⟩
  walk_at "E"
  walk_at "ii"
  refine rep_k (n := T.length + 1) eI (by rw [List.length_map]; rfl) (by omega) fun q3 hq3 => ?_
  have gJ := gI.new (o := .lst ((List.replicate (T.length + 1) 7).map V.int)) hq3
  walk_at "E"
  have dJ : Dt K (upd B14 q3 (.lst ((List.replicate (T.length + 1) 7).map V.int))) (.ref q3) (7 :: cr 7 T) := dtLI (SqL.of upd_same)
  generalize upd B14 q3 (HO.lst ((List.replicate (T.length + 1) 7).map V.int)) = B15 at *
  generalize upd H15 q3 (HO.lst ((List.replicate (T.length + 1) 7).map V.int)) = H16 at *
  have S7 : ∀ z ∈ (7 :: cr 7 T), (0 : Int) ≤ z := fun z hz => by
    rcases List.mem_cons.mp hz with rfl | h
    · decide
    · rw [cr_mem h]; decide
  refine ⟨B15, _, _, 7 :: cr 7 T, T, rfl, gJ.k, dJ, dT14.mono gJ.b, no1 _ S7, fun _ z => absurd (by rw [List.length_cons, cr_len]; omega) z, ?_⟩
  intro r' L' e' _ _ v4 B16 H17 g17 d17
  cases e'
  have gK := gJ.trans g17
  refine s_one (s_ret (e_and (e_cmp (op_eqD hr.units) (h := ?_))))
  walk_at "E"
  refine e_callX S.on takes0 hr (h := ?_)
  walk_at "E"
  refine ⟨_, _, 7, T, rfl, gK.k, dT14.mono gK.b, by omega, fun _ v5 B17 H18 g18 d18 => ?_, fun z => absurd z (by decide)⟩
  refine eq_dat (B := B17) (x := effC 7 T) (y := effC 7 T) (d17.mono g18.b) d18 g18.k (by decide) ⟨_, rfl, ifd (fun _ => ?_) fun z => absurd rfl z⟩
  have gL := gK.trans g18
  have xL : Ex B14 H18 := gL.b.trans gL.k
  refine e_one (e_cmp op_eq (h := e_mul (h := e_ixL (h := ?_))))
  walk_at "E"
  refine ⟨_, _, 0, _, rfl, rfl, ex_l xL hS14, at_of (j := 0) (v := .int r) rfl rfl, ?_⟩
  walk_at "E"
  refine ⟨_, _, rfl, rfl, ?_, ?_⟩
  · have e200 : (2 : Nat) ^ 200 = 1606938044258990275541962092341162602522202993782792835301376 := by decide
    exact wide_mul (a := 200) (b := 200) (by rw [e200]; omega) hm (by decide) (by decide) (by decide)
  refine e_ixL (h := e_ixT (h := ?_))
  walk_at "E"
  refine ⟨G, _, 0, _, rfl, rfl, ex_t xL eG14, rfl, ?_⟩
  walk_at "E"
  refine ⟨D, _, 0, _, rfl, rfl, ex_l xL dD14, at_of (j := 0) (v := .int (m * r)) rfl rfl, ?_⟩
  refine ⟨rfl, ?_⟩
  rw [show (decide (V.int (r * m) = V.int (m * r))) = true by rw [Int.mul_comm]; exact decide_eq_true rfl]
  have gM := gZ.trans gL.up
  exact k H18 (Gr.low gM) (Jk.low j0 gM (jz.gr gL) (by omega))
end
end K35
namespace K35
open PySem L2 Evl Lw
open Te
section
variable {P : Program} {w : World} {K : PySem.W.Frag} {mg : Str → Option Value} {base : Heap} {C CV : Addr}
/-! _law_repeated_right -/
abbrev N_rr : List Str := ["_law_size", "_law_effect", "_law_turns_here", "_law_times_here", "_law_many", "_law_found", "_law_power", "_law_left"]
theorem sc_rr : FnScope N_rr ["_law_size", "_law_effect", "_law_turns_here", "_law_times_here"] (defScope s_rr) := ⟨rfl, rfl, rfl, by decide +kernel, rfl, by decide +kernel, by decide +kernel⟩
def sp_rr (K : PySem.W.Frag) : Sp := fun vs H Q _ => ∃ (B : Hp) (v : V) (r n : Int) (T : List Int) (a : Addr), vs = [.int r, v, .ref a, .int n] ∧ Ex B H ∧ Dt K B v (effC r T) ∧ B a = some (.lst (T.map V.int)) ∧ Tiny T ∧ 0 ≤ r ∧ r ≤ 7 ∧ 0 ≤ n ∧ ∀ H', Gr M0 B H B H' → Q (.bl true) H'
def muR (σ : L2.St) (_ : Hp) : Nat := match σ with | [_, _, _, _, _, _, _, some (.int n)] => n.toNat | _ => 0
theorem rep_len (T : List Int) : ∀ n, (rep T n).length = T.length * n
  | 0 => rfl
  | n + 1 => by rw [rep_s, List.length_append, rep_len T n, Nat.mul_add, Nat.mul_one]
theorem rep_mapV (T : List Int) : ∀ n, (List.replicate n (T.map V.int)).flatten = (rep T n).map V.int
  | 0 => rfl
  | n + 1 => by rw [List.replicate_succ', List.flatten_append, List.flatten_singleton, rep_mapV T n, rep_s, List.map_append]
theorem mul_small {i j : Int} (h1 : i.natAbs < 1000) (h2 : j.natAbs < 1000) : CMulW i j := wide_mul (a := 10) (b := 10) (by omega) (by omega) (by decide) (by decide) (by decide)
theorem ok_rr (S : PC P w K mg base C CV) (mr : mg "range" = none) : ∀ f fd, Fun K "_law_repeated_right" "_law_repeated_right" s_rr f fd → FnOk P w K mg base CX0 5 f fd ["_law_size", "_law_effect", "_law_turns_here", "_law_times_here"] (sp_rr K) := by
  refine ok_of sc_rr (fun vs H Q E h => by obtain ⟨_, _, _, _, _, _, rfl, _⟩ := h; rfl) (fun f cdv A0 outer s H vs Q E hr h => ?_)
  obtain ⟨B, v, r, n, T, a, rfl, kB, hd, ha, tT, r0, r7, n0, k⟩ := h
  have lT := tT.len
  have V1 : Va r (effC r T) := effC_V r0 T
  refine s_cons (s_for (h := i_rng1 mr (h := e_int ?_)))
  refine ⟨5, rfl, by decide, by decide, ?_⟩
  refine for_it walk_r0 (fun i σ H' => (∃ u, σ = [some (.int r), some v, some (.ref a), some (.int n), u, none, none, none]) ∧ Ex H H') ⟨⟨none, rfl⟩, Ex.refl H⟩ (fun _ _ _ _ _ => trivial) ?_ ?_
  · rintro i x σ H' H1 hi ⟨⟨u, rfl⟩, ex⟩ ⟨rfl, rfl⟩
    have hi5 : i < 5 := hi
    refine g_name 4 sc_rr.nd (q := ?_)
    have kB' := kB.trans ex
    refine s_one (s_if (t_not (t_val (e_call S.ise (hr.mono (by decide)) (h := a_cons (h := e_callX S.re takes0 hr (h := ?_)))))))
    walk_at "E"
    refine ⟨B, _, r, effC r T, (i : Nat), rfl, kB', hd, fun z => absurd z (by omega), fun _ z => absurd V1 z, fun _ z => absurd z (by omega), fun _ _ v1 B1 H2 g1 d1 => ?_⟩
    rw [effC_pw r0, Int.toNat_natCast] at d1
    refine a_cons (h := e_bin op_rep (h := e_lst ?_))
    walk_at "E"
    refine ⟨by show 1 ≤ sizeLine; decide, fun p hp => ?_⟩
    have gA := g1.own (o := .lst [.int r]) hp
    have eP : (upd H2 p (.lst [.int r])) p = some (.lst [.int r]) := upd_same
    generalize upd H2 p (HO.lst [.int r]) = H3 at *
    refine e_add (h := e_mul (h := e_blt call_len_seq S.ml PySem.boot_len ?_))
    walk_at "E"
    have hL := SqL.of (K := K) ((gA.b.trans gA.k) _ _ ha)
    refine ⟨_, _, rfl, .inl hL, ?_⟩
    walk_at "E"
    rw [List.length_map]
    refine ⟨_, _, rfl, rfl, mul_small (by omega) (by omega), ?_⟩
    walk_at "E"
    walk_at "ii"
    have hlen := rep_len T i
    have hle : T.length * i ≤ 60 * 4 := Nat.mul_le_mul lT (by omega)
    refine rep_k (n := (rep T i).length + 1) eP (by rw [hlen, Int.natCast_add, Int.natCast_mul]; rfl) (by omega) fun q hq => ?_
    have gB := gA.new (o := .lst ((List.replicate ((rep T i).length + 1) r).map V.int)) hq
    have xB := ((Gr.refl (M := M0) gA.k).new (o := .lst ((List.replicate ((rep T i).length + 1) r).map V.int)) hq).b
    have dB : Dt K (upd B1 q (.lst ((List.replicate ((rep T i).length + 1) r).map V.int))) (.ref q) (r :: cr r (rep T i)) := dtLI (SqL.of upd_same)
    generalize upd B1 q (HO.lst ((List.replicate ((rep T i).length + 1) r).map V.int)) = B2 at *
    generalize upd H3 q (HO.lst ((List.replicate ((rep T i).length + 1) r).map V.int)) = H4 at *
    refine a_cons (h := e_bin op_rep (h := ?_))
    walk_at "E"
    refine ⟨a, (i : Nat), _, rfl, rfl, (gB.b.trans gB.k) _ _ ha, by omega, by omega, ?_, fun t ht => ?_⟩
    · rw [List.length_map, Int.toNat_natCast]
      exact Nat.le_trans hle (by decide)
    rw [Int.toNat_natCast, rep_mapV]
    have gC := gB.new (o := .lst ((rep T i).map V.int)) ht
    have xC := ((Gr.refl (M := M0) gB.k).new (o := .lst ((rep T i).map V.int)) ht).b
    have dC : Dt K (upd B2 t (.lst ((rep T i).map V.int))) (.ref t) (rep T i) := dtLI (SqL.of upd_same)
    refine a_nil ⟨_, _, _, _, r, cr r (rep T i), rep T i, rfl, gC.k, (d1.mono xB).mono xC, dB.mono xC, dC, cr_len r _, r0, by omega, fun l hl => by rw [cr_mem hl]; exact r0, fun H5 g5 => ⟨_, rfl, iff_ rfl (s_nil ⟨⟨_, rfl⟩, ?_⟩)⟩⟩
    exact ex.trans (gC.trans g5).ex
  rintro σ H' ⟨⟨u, rfl⟩, ex⟩
  have kB' := kB.trans ex
  refine s_cons (s_par3 5 6 7 sc_rr.nd (h := a_cons (h := e_tup ?_)))
  walk_at "E"
  refine ⟨by show 3 ≤ sizeLine; decide, fun p hp => ?_⟩
  walk_at "E"
  have g0 := (Gr.refl (M := M0) kB').new (o := .tup [.int 0, .int 0, .int r]) hp
  have d0 : Dt K (upd B p (.tup [.int 0, .int 0, .int r])) (.ref p) (idE r) := dtE3 (SqT.of upd_same)
  generalize upd B p (HO.tup [.int 0, .int 0, .int r]) = B1 at *
  generalize upd H' p (HO.tup [.int 0, .int 0, .int r]) = H1 at *
  refine ⟨_, _, _, rfl, ?_⟩
  refine s_cons (s_while (fun σ H2 => ∃ (B2 : Hp) (a' b' : V) (m p : E3) (l : Int), σ = [some (.int r), some v, some (.ref a), some (.int n), u, some a', some b', some (.int l)] ∧ Gr M0 B H' B2 H2 ∧ Dt K B2 a' m ∧ Dt K B2 b' p ∧ Va r m ∧ Va r p ∧ 0 ≤ l ∧ joinE m (pw r p l.toNat) = pw r (effC r T) n.toNat)
    muR ⟨B1, _, _, idE r, effC r T, n, rfl, g0, d0, hd.mono g0.b, id_V r0, V1, n0, id_join (pw_V V1 _)⟩ ?_)
  rintro σ H2 ⟨B2, a', b', m, p', l, rfl, g, da, db, vm, vp, l0, hj⟩
  refine t_cmp op_gt (h := ?_)
  walk_at "E"
  refine ⟨_, _, rfl, rfl, _, rfl, ifd (fun c => ?_) fun c => ?_⟩
  · obtain ⟨m2, hm2⟩ : ∃ m2, m2 = (if l.toNat % 2 = 1 then joinE m p' else m) := ⟨_, rfl⟩
    have vm2 : Va r m2 := by rw [hm2]; split; exact join_V vm vp; exact vm
    have last : ∀ {D' : Ends} (B3 H3 : Hp) (a2 : V), Gr M0 B H' B3 H3 → Dt K B3 a2 m2 → Dt K B3 b' p' →
        (∀ (B4 H4 : Hp) (b2 : V), Gr M0 B H' B4 H4 → Dt K B4 a2 m2 → Dt K B4 b2 (joinE p' p') → D'.nx [some (.int r), some v, some (.ref a), some (.int n), u, some a2, some b2, some (.int (l / 2))] H4) →
        WSs (cxOf CX0 P w K mg base N_rr "_law_repeated_right" (defScope s_rr) f cdv A0 outer s H E).nox (match (defBody s_rr).getD 2 (.Pass ⟨0, 0, 0, 0⟩) with | .While _ b _ _ => b.drop 1 | _ => []) D' [some (.int r), some v, some (.ref a), some (.int n), u, some a2, some b', some (.int l)] H3 := by
      intro D' B3 H3 a2 g3 da3 db3 q
      refine s_cons (s_set 6 sc_rr.nd (h := e_callX S.je takes0 hr (h := ?_)))
      walk_at "E"
      refine ⟨B3, _, _, r, p', p', rfl, g3.k, db3, db3, fun z => absurd z (by omega), fun _ z => absurd vp z, fun _ z => absurd vp z, fun _ _ b2 B4 H4 g4 db4 => ?_⟩
      refine s_one (s_set 7 sc_rr.nd (h := e_fdiv (h := ?_)))
      walk_at "E"
      exact ⟨_, _, rfl, rfl, ⟨by decide, by decide⟩, q B4 H4 b2 (g3.trans g4) (da3.mono g4.b) db4⟩
    have fin : ∀ (B3 H3 : Hp) (a2 b2 : V), Gr M0 B H' B3 H3 → Dt K B3 a2 m2 → Dt K B3 b2 (joinE p' p') → (∃ (B2 : Hp) (a' b' : V) (m p : E3) (l_1 : Int), [some (.int r), some v, some (.ref a), some (.int n), u, some a2, some b2, some (.int (l / 2))] = [some (.int r), some v, some (.ref a), some (.int n), u, some a', some b', some (.int l_1)] ∧ Gr M0 B H' B2 H3 ∧ Dt K B2 a' m ∧ Dt K B2 b' p ∧ Va r m ∧ Va r p ∧ 0 ≤ l_1 ∧ joinE m (pw r p l_1.toNat) = pw r (effC r T) n.toNat) := fun B3 H3 a2 b2 g3 da3 db3 =>
      ⟨B3, a2, b2, m2, joinE p' p', l / 2, rfl, g3, da3, db3, vm2, join_V vp vp, by omega, by rw [← hj, hm2, ← pw_half vm vp, show (l / 2).toNat = l.toNat / 2 by omega]⟩
    refine s_cons (s_if (t_cmp op_eq (h := e_mod (h := ?_))))
    walk_at "E"
    refine ⟨_, _, rfl, rfl, by decide, ?_⟩
    walk_at "E"
    refine ⟨rfl, _, rfl, ifd (fun d => ?_) fun d => ?_⟩
    · refine s_one (s_set 5 sc_rr.nd (h := e_callX S.je takes0 hr (h := ?_)))
      walk_at "E"
      refine ⟨B2, _, _, r, m, p', rfl, g.k, da, db, fun z => absurd z (by omega), fun _ z => absurd vm z, fun _ z => absurd vp z, fun _ _ a2 B3 H3 g3 da3 => ?_⟩
      have d' : l % 2 = 1 := by simpa using d
      rw [if_pos (by omega)] at hm2
      rw [← hm2] at da3
      exact last B3 H3 a2 (g.trans g3) da3 (db.mono g3.b) fun B4 H4 b2 g4 da4 db4 => ⟨fin B4 H4 a2 b2 g4 da4 db4, half_lt c⟩
    · have d' : ¬ l % 2 = 1 := by simpa using d
      rw [if_neg (by omega)] at hm2
      rw [← hm2] at da
      exact s_nil (last B2 H2 a' g da db fun B4 H4 b2 g4 da4 db4 => ⟨fin B4 H4 a' b2 g4 da4 db4, half_lt c⟩)
  · have l1 : l = 0 := by omega
    subst l1
    rw [show pw r p' (0 : Int).toNat = idE r from rfl, join_id vm] at hj
    refine s_one (s_ret (e_cmp (op_eqD hr.units) (h := e_callKX S.reK hr (h := ?_))))
    walk_at "E"
    refine ⟨rfl, rfl, B2, _, r, effC r T, n, rfl, g.k, hd.mono g.b, fun z => absurd z (by omega), fun _ z => absurd V1 z, fun _ z => absurd z (by omega), fun _ _ v9 B9 H9 g9 d9 => ?_⟩
    walk_at "E"
    rw [hj] at da
    refine eq_dat (B := B9) (x := pw r (effC r T) n.toNat) (y := pw r (effC r T) n.toNat) d9 (da.mono g9.b) g9.k (by decide) ?_
    rw [decide_eq_true rfl]
    exact k _ (gr_ex kB (ex.trans (g.trans g9).ex))
end
end K35
namespace K35
open PySem L2 Evl Lw
open Te
section
variable {P : Program} {w : World} {K : PySem.W.Frag} {mg : Str → Option Value} {base : Heap} {C CV : Addr}
/-! _law_ends_right -/
abbrev N_er : List Str := ["_law_jug_here", "_law_told", "_law_sizes", "_law_turns_here", "_law_shift", "_law_low", "_law_high", "_law_scroll", "_law_turn"]
theorem sc_er : FnScope N_er ["_law_jug_here", "_law_told", "_law_sizes", "_law_turns_here"] (defScope s_er) := ⟨rfl, rfl, rfl, by decide +kernel, rfl, by decide +kernel, by decide +kernel⟩
def sp_er (K : PySem.W.Frag) : Sp := fun vs H Q _ => ∃ (B : Hp) (d : Addr) (v v2 v3 : V) (r : Int) (L T : List Int) (n : Nat), vs = [.ref d, v, v2, v3] ∧ Jk B H d (n + 10) ∧ Dt K B v (eff r L T) ∧ Dt K B v2 (r :: L) ∧ Dt K B v3 T ∧ L.length = T.length ∧ 0 ≤ r ∧ r < 10000000000000000000000000000000 ∧ (∀ l ∈ L, 0 ≤ l) ∧ ∀ H', Gr (Md d) B H B H' → Jk B H' d n → Q (.bl true) H'
theorem ok_er (mr : mg "range" = none) (mm : mg "max" = none) (mi : mg "min" = none) (ms : mg "sum" = none) (e0 : Cal P w K mg base "_law_pour" 1 ["_law_jug_here", "_law_many"] sp_pour) (e1 : Cal P w K mg base "_law_led" 1 ["_law_sizes", "_law_turns_here", "_law_scroll"] (sp_led K)) :
    ∀ f fd, Fun K "_law_ends_right" "_law_ends_right" s_er f fd → FnOk P w K mg base CX0 2 f fd ["_law_jug_here", "_law_told", "_law_sizes", "_law_turns_here"] (sp_er K) := by
  refine ok_of sc_er (fun vs H Q E h => by obtain ⟨_, _, _, _, _, _, _, _, _, rfl, _⟩ := h; rfl) (fun f cdv A0 outer s H vs Q E hr h => ?_)
  obtain ⟨B, d, v, v2, v3, r, L, T, n, rfl, j0, hd, hd2, hd3, hl, r0, r1, L0, k⟩ := h
  obtain ⟨a, rfl, hE⟩ := dt_e3 hd
  obtain ⟨b, rfl, hS⟩ := dt_ints hd2
  obtain ⟨c, rfl, hT⟩ := dt_ints hd3
  refine s_cons (s_asg (h := ?_))
  walk_at "E"
  refine g_tup (ex_t j0.k hE) rfl (h := gs_cons (h := g_name 4 sc_er.nd (q := gs_cons (h := g_name 5 sc_er.nd (q := gs_cons (h := g_name 6 sc_er.nd (q := gs_nil ?_)))))))
  refine s_cons (s_for (h := i_list (e_bin op_cat (h := e_lst ?_))))
  walk_at "E"
  refine e_ixL (h := ?_)
  walk_at "E"
  refine ⟨b, _, 0, _, rfl, rfl, ex_l j0.k hS, at_of (j := 0) (v := .int r) rfl rfl, ?_⟩
  walk_at "E"
  refine ⟨by show 2 ≤ sizeLine; decide, fun p hp => ?_⟩
  have g1 := (Gr.refl (M := Md d) j0.k).own (o := .lst [.int 0, .int r]) hp
  have j1 := j0.own (o := .lst [.int 0, .int r]) hp
  have ep : (upd H p (.lst [.int 0, .int r])) p = some (.lst (([0, r] : List Int).map V.int)) := upd_same
  have ndp : d ≠ p := j0.at_.ne hp
  generalize upd H p (HO.lst [.int 0, .int r]) = H1 at *
  refine e_lc [("_law_turn", 8)] sc_er.nd (ok := blkOk_by (N := N_er) (sc := defScope s_er) (by decide +kernel)) (h := i_rng1 mr (h := e_int ?_))
  refine ⟨4, rfl, by decide, by decide, fun D hD => lcPour 1 (m := n + 2) walk_range (fun z => 0 ≤ z ∧ z ≤ r) (j1.le (by show n + 2 + 1 * 4 ≤ n + 10; omega)) hD (by show 4 < sizeLine; decide) (fun _ _ _ _ _ => trivial) ?_ ?_⟩
  · rintro i q x B' H' H'' hi g j' ⟨rfl, rfl⟩ KT KF kt s0 H0 C0 cl fp
    refine g_name 8 sc_er.nd (q := ⟨rfl, ?_⟩)
    intro s0 H0 C0 cl fp
    refine ts_nil (ift rfl ?_)
    intro s0 H0 C0 cl fp
    refine e_call e0 hr (h := ?_)
    walk_at "E"
    refine e_add (h := e_ixL (h := ?_))
    walk_at "E"
    refine ⟨b, _, 0, _, rfl, rfl, ex_l (g.b.trans g.k) hS, at_of (j := 0) (v := .int r) rfl rfl, ?_⟩
    walk_at "E"
    walk_at "ii"
    walk_at "E"
    refine pour_k j' (by omega) (by
      have e250 : (2 : Nat) ^ 250 = 1809251394333065553493296640760748560207343510400633813116524750123642650624 := by decide
      rw [e250]; omega) fun r' H4 r0' r1' g4 j4 => ?_
    exact kt _ B' H4 g4 j4 ⟨r0', by omega⟩
  intro B2 H2 ns g2 j2 b2 eD hln hp2
  have ep2 := g2.h _ _ (fun z => ndp z.symm) ep
  refine cat_k ep2 eD (by show 2 + ns.length ≤ 10000; omega) fun q hq => ?_
  have gA := (g1.trans g2).own (o := .lst (([0, r] ++ ns).map V.int)) hq
  have jA := j2.own (o := .lst (([0, r] ++ ns).map V.int)) hq
  have eq_ : (upd H2 q (.lst (([0, r] ++ ns).map V.int))) q = some (.lst (([0, r] ++ ns).map V.int)) := upd_same
  generalize upd H2 q (HO.lst (([0, r] ++ ns).map V.int)) = H3 at *
  have inb : ∀ x ∈ [0, r] ++ ns, (0 : Int) ≤ x ∧ x ≤ r := fun x hx => by
    rcases List.mem_append.mp hx with h | h
    · rcases List.mem_cons.mp h with rfl | h
      · exact ⟨Int.le_refl _, r0⟩
      · rw [List.mem_singleton.mp h]; exact ⟨r0, Int.le_refl _⟩
    · exact hp2 x h
  have gL := Gr.low gA
  have jL := Jk.low (l := n) j0 gA jA (by omega)
  refine ⟨q, rfl, ⟨_, SqL.of eq_⟩, for_it walk_list (fun i σ H' => Gr M0 B H3 B H' ∧ ∃ u, σ = [some (.ref d), some (.ref a), some (.ref b), some (.ref c), some (.int (eff r L T).s), some (.int (eff r L T).l), some (.int (eff r L T).h), u, none]) ⟨Gr.refl jL.k, none, rfl⟩ (fun i σ H' _ ⟨g, _⟩ => SqL.of (g.ex _ _ eq_)) ?_ ?_⟩
  · rintro i x σ H' H'' hi ⟨g, u, rfl⟩ ⟨rfl, hx⟩
    rw [List.getElem?_map] at hx
    cases et : ([0, r] ++ ns)[i]? with
    | none => rw [et] at hx; cases hx
    | some y =>
      rw [et] at hx
      cases hx
      have hy := inb y (List.mem_of_getElem? et)
      refine g_name 7 sc_er.nd (q := ?_)
      refine s_one (s_if (t_cmp op_ne (h := e_call e1 hr (h := ?_))))
      walk_at "E"
      refine ⟨B, _, _, r, y, L, T, rfl, g.k, hd2, hd3, hl, fun H5 g5 => ?_⟩
      refine e_blt (call_max2 rfl) mm (by decide +kernel) (a_cons (h := ?_))
      walk_at "E"
      refine e_blt (call_min2 rfl) mi (by decide +kernel) (a_cons (h := ?_))
      walk_at "E"
      refine e_add (h := ?_)
      walk_at "E"
      walk_at "ii"
      walk_at "E"
      refine ⟨_, _, rfl, ?_⟩
      walk_at "E"
      refine ⟨_, _, rfl, ?_⟩
      rw [py_max, py_min]
      have e : led r L T y = max (eff r L T).l (min (eff r L T).h (y + (eff r L T).s)) := eff_app hl r0 L0 hy.1 hy.2
      refine ⟨rfl, _, rfl, iff_ (by rw [e]; simp) (s_nil ⟨g.trans g5, _, rfl⟩)⟩
  rintro σ H' ⟨g, u, rfl⟩
  refine s_cons (s_if (t_wb (b_or (t_cmp op_ne (h := ?_)))))
  walk_at "E"
  refine e_call e1 hr (h := ?_)
  walk_at "E"
  refine ⟨B, _, _, r, 0, L, T, rfl, g.k, hd2, hd3, hl, fun H5 g5 => ?_⟩
  refine ⟨rfl, _, rfl, iff_ (by simp [eff]) ?_⟩
  refine b_or1 (t_cmp op_ne (h := ?_))
  walk_at "E"
  refine e_call e1 hr (h := ?_)
  walk_at "E"
  refine e_ixL (h := ?_)
  walk_at "E"
  refine ⟨b, _, 0, _, rfl, rfl, ex_l g5.k hS, at_of (j := 0) (v := .int r) rfl rfl, ?_⟩
  walk_at "E"
  refine ⟨B, _, _, r, r, L, T, rfl, g5.k, hd2, hd3, hl, fun H6 g6 => ?_⟩
  refine ⟨rfl, _, rfl, iff_ (by simp [eff]) (s_nil ?_)⟩
  have gE := (g.trans g5).trans g6
  have fin : Q (.bl true) H6 := k H6 (gL.trans gE.up) (jL.gr gE)
  refine s_one (s_ret (e_cmp op_eq (h := ?_)))
  walk_at "nm"
  refine e_if (t_cmp op_lt (h := ?_))
  walk_at "E"
  refine ⟨_, _, rfl, rfl, _, rfl, ifd (fun cc => ?_) fun cc => ?_⟩
  · refine e_blt (cr_sum rfl) ms (by decide +kernel) (a_cons (h := ?_))
    walk_at "E"
    refine ⟨_, _, rfl, ex_l g6.k hT, ?_⟩
    have e : (eff r L T).s = T.sum := shf_lt cc
    refine ⟨rfl, ?_⟩
    rw [e, decide_eq_true rfl]
    exact fin
  · walk_at "E"
    have e : (eff r L T).s = 0 := shf_ge cc
    refine ⟨rfl, ?_⟩
    rw [e, decide_eq_true rfl]
    exact fin
end
end K35
namespace K35
open PySem L2 Evl Lw
open Te
section
variable {P : Program} {w : World} {K : PySem.W.Frag} {mg : Str → Option Value} {base : Heap} {C CV : Addr}
/-! _law_any -/
abbrev N_any : List Str := ["_law_jug_here", "_law_size", "_law_low", "_law_high", "_law_shift", "_law_is_one"]
theorem sc_any : FnScope N_any ["_law_jug_here", "_law_size"] (defScope s_any) := ⟨rfl, rfl, rfl, by decide +kernel, rfl, by decide +kernel, by decide +kernel⟩
def sp_any (K : PySem.W.Frag) : Sp := fun vs H Q _ => ∃ (B : Hp) (d : Addr) (r : Int) (n : Nat), vs = [.ref d, .int r] ∧ Jk B H d (n + 5) ∧ 0 ≤ r ∧ r ≤ 7 ∧
  ∀ (p : Addr) (v : V) (e : E3) (b : Bool) (B' H' : Hp), Gr (Md d) B H B' H' → Jk B' H' d n → SqT K B' p [v, .bl b] → Dt K B' v e → (b = true ↔ Va r e) → Q (.ref p) H'
theorem Va_iff2 {r : Int} {e : E3} (r0 : 0 ≤ r) : Va r e ↔ (0 ≤ e.l ∧ e.l ≤ e.h ∧ e.h ≤ r) ∧ (if e.l = e.h then e.s = 0 else e.h - r ≤ e.s ∧ e.s ≤ e.l) := by
  rw [Va_iff r0]
  constructor
  · rintro ⟨⟨h1, h2, h3⟩, h4⟩
    refine ⟨⟨h1, h2, h3⟩, ?_⟩
    by_cases c : e.l = e.h
    · rw [if_pos c]; rw [if_neg (by omega)] at h4; exact h4
    · rw [if_neg c]; rw [if_pos (by omega)] at h4; exact h4
  · rintro ⟨⟨h1, h2, h3⟩, h4⟩
    refine ⟨⟨h1, h2, h3⟩, ?_⟩
    by_cases c : e.l = e.h
    · rw [if_neg (by omega)]; rw [if_pos c] at h4; exact h4
    · rw [if_pos (by omega)]; rw [if_neg c] at h4; exact h4
theorem ok_any (e0 : Cal P w K mg base "_law_pour" 1 ["_law_jug_here", "_law_many"] sp_pour) : ∀ f fd, Fun K "_law_any" "_law_any" s_any f fd → FnOk P w K mg base CX0 2 f fd ["_law_jug_here", "_law_size"] (sp_any K) := by
  refine ok_of sc_any (fun vs H Q E h => by obtain ⟨_, _, _, _, rfl, _⟩ := h; rfl) (fun f cdv A0 outer s H vs Q E hr h => ?_)
  obtain ⟨B, d, r, n, rfl, j0, r0, r7, k⟩ := h
  have e250 : (2 : Nat) ^ 250 = 1809251394333065553493296640760748560207343510400633813116524750123642650624 := by decide
  refine s_cons (s_par 2 3 sc_any.nd (h := a_cons (h := e_sub (h := e_call e0 hr (h := ?_)))))
  walk_at "E"
  refine e_add (h := ?_)
  walk_at "E"
  walk_at "ii"
  walk_at "E"
  refine pour_k (n := n + 4) j0 (by omega) (by rw [e250]; omega) fun x1 H1 x10 x11 g1 j1 => ?_
  walk_at "E"
  walk_at "ii"
  refine a_cons (h := e_sub (h := e_call e0 hr (h := ?_)))
  walk_at "E"
  refine e_add (h := ?_)
  walk_at "E"
  walk_at "ii"
  walk_at "E"
  refine pour_k (n := n + 3) j1 (by omega) (by rw [e250]; omega) fun x2 H2 x20 x21 g2 j2 => ?_
  walk_at "E"
  walk_at "ii"
  refine a_nil ⟨_, _, rfl, ?_⟩
  refine s_cons (s_set 4 sc_any.nd (h := e_sub (h := e_sub (h := e_call e0 hr (h := ?_)))))
  walk_at "E"
  refine e_add (h := e_mul (h := ?_))
  walk_at "E"
  refine ⟨_, _, rfl, rfl, mul_small (by omega) (by omega), ?_⟩
  walk_at "E"
  walk_at "ii"
  walk_at "E"
  refine pour_k (n := n + 2) j2 (by omega) (by rw [e250]; omega) fun x3 H3 x30 x31 g3 j3 => ?_
  walk_at "E"
  walk_at "ii"
  walk_at "E"
  walk_at "ii"
  have fin : ∀ (sh lo hi : Int) (H4 : Hp), Gr (Md d) B H B H4 → Jk B H4 d n → WSs (cxOf CX0 P w K mg base N_any "_law_any" (defScope s_any) f cdv A0 outer s H E).nox ((defBody s_any).drop 3) { nx := fun _ H' => Q .non H', rt := Q } [some (.ref d), some (.int r), some (.int lo), some (.int hi), some (.int sh), none] H4 := by
    intro sh lo hi H4 g4 j4
    obtain ⟨e, he⟩ : ∃ e : E3, e = ⟨sh, lo, hi⟩ := ⟨_, rfl⟩
    have es : sh = e.s := by rw [he]
    have el : lo = e.l := by rw [he]
    have eh : hi = e.h := by rw [he]
    subst es; subst el; subst eh
    clear he
    have vi := Va_iff2 (e := e) r0
    have no : ¬ Va r e → (false = true ↔ Va r e) := fun z => ⟨(fun y => nomatch y), fun y => absurd y z⟩
    have last : ∀ b : Bool, (b = true ↔ Va r e) → WSs (cxOf CX0 P w K mg base N_any "_law_any" (defScope s_any) f cdv A0 outer s H E).nox ((defBody s_any).drop 4) { nx := fun _ H' => Q .non H', rt := Q } [some (.ref d), some (.int r), some (.int e.l), some (.int e.h), some (.int e.s), some (.bl b)] H4 := by
      intro b hb
      refine s_one (s_ret (e_tup (a_cons (h := e_tup ?_))))
      walk_at "E"
      refine ⟨by show 3 ≤ sizeLine; decide, fun p hp => ?_⟩
      walk_at "E"
      refine ⟨by show 2 ≤ sizeLine; decide, fun q hq => ?_⟩
      have h1 := (g4.new (o := .tup [.int e.s, .int e.l, .int e.h]) hp).new (o := .tup [.ref p, .bl b]) hq
      have h2 := (j4.new (o := .tup [.int e.s, .int e.l, .int e.h]) hp).new (o := .tup [.ref p, .bl b]) hq
      have h3 : SqT K (upd (upd B p (.tup [.int e.s, .int e.l, .int e.h])) q (.tup [.ref p, .bl b])) q [.ref p, .bl b] := SqT.of upd_same
      have pn : p ≠ q := fun z => by
        rw [z, upd_same] at hq
        cases hq
      exact k q (.ref p) e b _ _ h1 h2 h3 (dtE (SqT.of (by rw [upd_ne pn]; exact upd_same))) hb
    refine s_cons (s_set 5 sc_any.nd (h := e_and (h := e_chain3 op_le op_le op_le (h := ?_))))
    unfold tChain3
    walk_at "E"
    refine ⟨_, _, rfl, rfl, _, rfl, ifd (fun c1 => ?_) fun c1 => ⟨_, rfl, iff_ rfl (last false (no fun z => c1 z.l0))⟩⟩
    walk_at "E"
    refine ⟨_, _, rfl, rfl, _, rfl, ifd (fun c2 => ?_) fun c2 => ⟨_, rfl, iff_ rfl (last false (no fun z => c2 z.lh))⟩⟩
    walk_at "E"
    refine ⟨_, _, rfl, rfl, _, rfl, ifd (fun c3 => ?_) fun c3 => last false (no fun z => c3 z.hr)⟩
    refine e_one (e_if (t_cmp op_eq (h := ?_)))
    walk_at "E"
    refine ⟨rfl, _, rfl, ifd (fun c => ?_) fun c => ?_⟩
    · have c' : e.l = e.h := by simpa using c
      refine e_cmp op_eq (h := ?_)
      walk_at "E"
      refine ⟨rfl, last _ ?_⟩
      rw [vi, if_pos c']
      constructor
      · intro z
        exact ⟨⟨c1, c2, c3⟩, by simpa using z⟩
      · intro z
        rw [z.2]
        rfl
    · have c' : ¬ e.l = e.h := by simpa using c
      refine e_chain op_le op_le (h := e_sub (h := ?_))
      walk_at "E"
      walk_at "ii"
      walk_at "E"
      refine ⟨_, _, rfl, rfl, _, rfl, ifd (fun c4 => ?_) fun c4 => last false (no fun z => c4 (z.s0 (by omega)).1)⟩
      walk_at "E"
      refine ⟨_, _, rfl, rfl, last _ ?_⟩
      rw [vi, if_neg c', decide_eq_true_eq]
      exact ⟨fun z => ⟨⟨c1, c2, c3⟩, c4, z⟩, fun z => z.2.2⟩
  have gA := (g1.trans g2).trans g3
  refine s_cons (s_if (t_cmp op_eq (h := e_call e0 hr (h := ?_))))
  walk_at "E"
  refine pour_k (n := n + 1) j3 (by decide) (by decide) fun x4 H4 x40 x41 g4 j4 => ?_
  walk_at "E"
  refine ⟨rfl, _, rfl, ifd (fun c => ?_) fun c => s_nil (fin _ _ _ H4 (gA.trans g4) (j4.le (by omega)))⟩
  refine s_one (s_par3 2 3 4 sc_any.nd (h := ?_))
  walk_at "E"
  refine e_call e0 hr (h := ?_)
  walk_at "E"
  refine pour_k (n := n) j4 (by decide) (by decide) fun x5 H5 x50 x51 g5 j5 => ?_
  refine a_nil ⟨_, _, _, rfl, ?_⟩
  exact fin _ _ _ H5 ((gA.trans g4).trans g5) j5
end
end K35
namespace K35
open PySem L2 Evl Lw
open Te
inductive Er where
  | num (n : Int)
  | val (e : E3)
  | no
  deriving DecidableEq
theorem str_ne : ((Str.ofString "number") == (Str.ofString "value")) = false := by decide +kernel
theorem str_ne2 : ((Str.ofString "value") == (Str.ofString "number")) = false := by decide +kernel
instance : Dat Er where
  toD
    | .num n => .tuple [.str "number", .int n]
    | .val e => .tuple [.str "value", .tuple [.int e.s, .int e.l, .int e.h]]
    | .no => .none
  lay o := by
    cases o
    · simp only [PyData.canLay0, PyData.canLayAll0, Bool.and_self]; decide +kernel
    · simp only [PyData.canLay0, PyData.canLayAll0, Bool.and_self]; decide +kernel
    · simp only [PyData.canLay0]
  eqv d e := by
    cases d <;> cases e <;> simp only [PyData.eqv, PyData.eqvAll, str_ne, str_ne2, Bool.false_and, Bool.and_true, beq_self_eq_true, Bool.true_and]
    · rw [beq_dec]; simp
    · simp
    · simp
    · simp
    · rename_i d e
      rw [beq_dec, beq_dec, beq_dec, ← Bool.decide_and, ← Bool.decide_and]
      exact decide_eq_decide.mpr ⟨fun h => by cases d; cases e; simp only at h; obtain ⟨h1, h2, h3⟩ := h; subst h1; subst h2; subst h3; rfl, fun h => by cases h; exact ⟨rfl, rfl, rfl⟩⟩
    · simp
    · simp
    · simp
    · simp
  dep := 2
  dep_le d := by cases d <;> simp [PyData.depth, PyData.depthAll]
section
variable {K : PySem.W.Frag} {B : Hp} {v : V}
theorem dtEn {a : Addr} {n : Int} (h : SqT K B a [.str "number", .int n]) : Dt K B (.ref a) (Er.num n) := Dp.tup h (.cons (.str _) (.cons (.int _) .nil))
theorem dtEv {a : Addr} {e : E3} {y : V} (h : SqT K B a [.str "value", y]) (h1 : Dt K B y e) : Dt K B (.ref a) (Er.val e) := Dp.tup h (.cons (.str _) (.cons h1 .nil))
theorem dtEo : Dt K B .non Er.no := Dp.non
end
open Classical in
noncomputable def dueE (wd r : Int) (a b : E3) (t : Int) : Er :=
  if wd = 4 then .num (t + 1) else if r < 0 then .num r
  else if wd = 0 then (if ¬ Va r a then .val a else if ¬ Va r b then .val b else .no)
  else if wd = 1 then (if ¬ Va r a then .val a else if t < 0 then .num t else .no)
  else if wd = 2 then .no
  else if t ≠ -1 then .num (t + 2) else .no
section
variable {P : Program} {w : World} {K : PySem.W.Frag} {mg : Str → Option Value} {base : Heap} {C CV : Addr}
/-! _law_refused -/
abbrev N_ref : List Str := ["_law_word", "_law_size", "_law_one", "_law_other", "_law_times_here", "e"]
theorem sc_ref : FnScope N_ref ["_law_word", "_law_size", "_law_one", "_law_other", "_law_times_here"] (defScope s_ref) := ⟨rfl, rfl, rfl, by decide +kernel, rfl, by decide +kernel, by decide +kernel⟩
def sp_ref (K : PySem.W.Frag) : Sp := fun vs H Q _ => ∃ (B : Hp) (wd r t : Int) (v v2 : V) (a b : E3), vs = [.int wd, .int r, v, v2, .int t] ∧ Ex B H ∧ Dt K B v a ∧ Dt K B v2 b ∧ 0 ≤ wd ∧ wd ≤ 4 ∧ -1 ≤ t ∧ t ≤ 2 ∧ RetD K B H Q (dueE wd r a b t)
theorem ok_ref (S : PC P w K mg base C CV) (T : ExC P w K mg base "InvalidNumber" C) (TV : ExC P w K mg base "InvalidValue" CV) (hne : PySem.W.exmOne K (.ref CV) (.ref C) = some false) :
    ∀ f fd, Fun K "_law_refused" "_law_refused" s_ref f fd → FnOk P w K mg base CX0 5 f fd ["_law_word", "_law_size", "_law_one", "_law_other", "_law_times_here"] (sp_ref K) := by
  refine ok_of sc_ref (fun vs H Q E h => by obtain ⟨_, _, _, _, _, _, _, _, rfl, _⟩ := h; rfl) (fun f cdv A0 outer s0 H vs Q E hr h => ?_)
  obtain ⟨B, wd, r, t, v, v2, a, b, rfl, kB, hd, hd2, w0, w4, t0, t2, k⟩ := h
  refine s_cons (s_tryAs2 5 sc_ref.nd T.gC TV.gC (h := fun W pn xe tk po hW hW2 => ?_))
  have rai : ∀ H1 n, Ex H H1 → dueE wd r a b t = .num n → Rai C H1 (fun cls d H' => W cls d [some (.int wd), some (.int r), some v, some v2, some (.int t), none] H') n := by
    intro H1 n ex1 hn d H' ex hd' hx
    refine hW C d _ H' T.te fun ae oe pn hz hf ha => ?_
    refine s_one (s_ret (e_tup (a_cons (h := e_str (a_cons (h := e_xf T.xf T.nv hz hf (h := ?_)))))))
    walk_at "E"
    refine ⟨rfl, rfl, d, _, _, rfl, hx, rfl, a_nil ⟨by show 2 ≤ sizeLine; decide, fun p hp => ?_⟩⟩
    have g := gr_ex kB (ex1.trans ex)
    refine k _ _ _ (g.new hp) ?_
    rw [hn]
    exact dtEn (SqT.of upd_same)
  have raiV : ∀ v0 e0, dueE wd r a b t = .val e0 → Dt K B v0 e0 → RaiV CV H (fun cls d H' => W cls d [some (.int wd), some (.int r), some v, some v2, some (.int t), none] H') v0 := by
    intro v0 e0 hn hd0 d H' ex hd' hx
    refine hW2 CV d _ H' hne TV.te fun ae oe pn hz hf ha => ?_
    refine s_one (s_ret (e_tup (a_cons (h := e_str (a_cons (h := e_xf TV.xf TV.nv hz hf (h := ?_)))))))
    walk_at "E"
    refine ⟨rfl, rfl, d, _, _, rfl, hx, rfl, a_nil ⟨by show 2 ≤ sizeLine; decide, fun p hp => ?_⟩⟩
    have g := (gr_ex kB ex).new (o := .tup [.str "value", v0]) hp
    refine k _ _ _ g ?_
    rw [hn]
    exact dtEv (SqT.of upd_same) (hd0.mono g.b)
  have fine : dueE wd r a b t = .no → ∀ H', Ex H H' → WSs (cxOf CX0 P w K mg base N_ref "_law_refused" (defScope s_ref) f cdv A0 outer s0 H E).nox ((defBody s_ref).drop 1) { nx := fun _ H' => Q .non H', rt := Q } [some (.int wd), some (.int r), some v, some v2, some (.int t), none] H' := by
    intro hn H' ex
    refine s_one (s_ret ?_)
    walk_at "E"
    refine k _ _ _ (gr_ex kB ex) ?_
    rw [hn]
    exact dtEo
  refine s_one (s_if (t_cmp op_eq (h := ?_)))
  walk_at "E"
  refine ⟨rfl, _, rfl, ifd (fun c => ?_) fun c => ?_⟩
  · have c : wd = 0 := by simpa using c
    subst c
    refine s_one (s_expr (h := e_callX S.je tk hr (h := ?_)))
    walk_at "E"
    refine ⟨B, _, _, r, a, b, rfl, kB, hd, hd2, fun z => rai H r (Ex.refl H) ?_, fun z y => raiV v a ?_ hd, fun z y => raiV v2 b ?_ hd2, fun y z u B' H' g _ => fine ?_ H' g.ex⟩
    · unfold dueE; rw [if_neg (by decide), if_pos z]
    · unfold dueE; rw [if_neg (by decide), if_neg (by omega), if_pos rfl, if_pos y]
    · unfold dueE; rw [if_neg (by decide), if_neg (by have := z.r0; omega), if_pos rfl, if_neg (by simpa using z), if_pos y]
    · unfold dueE; rw [if_neg (by decide), if_neg (by have := z.r0; omega), if_pos rfl, if_neg (by simpa using y), if_neg (by simpa using z)]
  have n0 : ¬ wd = 0 := by simpa using c
  refine s_one (s_if (t_cmp op_eq (h := ?_)))
  walk_at "E"
  refine ⟨rfl, _, rfl, ifd (fun c => ?_) fun c => ?_⟩
  · have c : wd = 1 := by simpa using c
    subst c
    refine s_one (s_expr (h := e_callX S.re tk hr (h := ?_)))
    walk_at "E"
    refine ⟨B, _, r, a, t, rfl, kB, hd, fun z => rai H r (Ex.refl H) ?_, fun z y => raiV v a ?_ hd, fun z y => rai H t (Ex.refl H) ?_, fun z y u B' H' g _ => fine ?_ H' g.ex⟩
    · unfold dueE; rw [if_neg (by decide), if_pos z]
    · unfold dueE; rw [if_neg (by decide), if_neg (by omega), if_neg (by decide), if_pos rfl, if_pos y]
    · unfold dueE; rw [if_neg (by decide), if_neg (by have := z.r0; omega), if_neg (by decide), if_pos rfl, if_neg (by simpa using z), if_pos y]
    · unfold dueE; rw [if_neg (by decide), if_neg (by have := z.r0; omega), if_neg (by decide), if_pos rfl, if_neg (by simpa using z), if_neg (by omega)]
  have n1 : ¬ wd = 1 := by simpa using c
  refine s_one (s_if (t_cmp op_eq (h := ?_)))
  walk_at "E"
  refine ⟨rfl, _, rfl, ifd (fun c => ?_) fun c => ?_⟩
  · have c : wd = 2 := by simpa using c
    subst c
    refine s_one (s_expr (h := e_callX S.on tk hr (h := ?_)))
    walk_at "E"
    refine ⟨by show 1 ≤ sizeLine; decide, fun p hp => ?_⟩
    have g1 := (Gr.refl (M := M0) kB).new (o := .lst [.int t]) hp
    refine a_nil ⟨_, _, r, [t], rfl, g1.k, dtLI (SqL.of upd_same), by show 1 ≤ 1000; decide, fun z u B' H' g _ => fine ?_ H' (g1.trans g).ex, fun z => rai _ r g1.ex ?_⟩
    · unfold dueE; rw [if_neg (by decide), if_neg (by omega), if_neg (by decide), if_neg (by decide), if_pos rfl]
    · unfold dueE; rw [if_neg (by decide), if_pos z]
  have n2 : ¬ wd = 2 := by simpa using c
  refine s_one (s_if (t_cmp op_eq (h := ?_)))
  walk_at "E"
  refine ⟨rfl, _, rfl, ifd (fun c => ?_) fun c => ?_⟩
  · have c : wd = 4 := by simpa using c
    subst c
    refine s_one (s_expr (h := e_callX S.et tk hr (h := a_cons (h := e_lst (a_nil ⟨Nat.zero_le _, fun p hp => ?_⟩)))))
    have g1 := (Gr.refl (M := M0) kB).new (o := .lst []) hp
    have d1 : Dt K (upd B p (.lst [])) (.ref p) ([] : List Int) := dtLI (SqL.of upd_same)
    generalize upd B p (HO.lst []) = B1 at *
    generalize upd H p (HO.lst []) = H1 at *
    refine a_cons (h := e_bin op_rep (h := e_lst ?_))
    walk_at "E"
    refine ⟨by show 1 ≤ sizeLine; decide, fun q hq => ?_⟩
    have g2 := g1.own (o := .lst [.int r]) hq
    have eq_ : (upd H1 q (.lst [.int r])) q = some (.lst [.int r]) := upd_same
    generalize upd H1 q (HO.lst [.int r]) = H2 at *
    refine e_add (h := ?_)
    walk_at "E"
    walk_at "ii"
    refine rep_k (n := (t + 1).toNat) eq_ (by omega) (by omega) fun q2 hq2 => ?_
    have g3 := g2.new (o := .lst ((List.replicate (t + 1).toNat r).map V.int)) hq2
    have x3 := ((Gr.refl (M := M0) g2.k).new (o := .lst ((List.replicate (t + 1).toNat r).map V.int)) hq2).b
    refine a_nil ⟨_, _, _, [], List.replicate (t + 1).toNat r, rfl, g3.k, d1.mono x3, dtLI (SqL.of upd_same), (fun i x hx => nomatch hx), fun _ _ => rai _ _ g3.ex ?_, (fun r L e => nomatch e)⟩
    unfold dueE
    rw [if_pos rfl, List.length_replicate]
    congr 1
    omega
  have n4 : ¬ wd = 4 := by simpa using c
  refine s_one (s_expr (h := e_callX S.et tk hr (h := a_cons (h := e_lst ?_))))
  walk_at "E"
  refine ⟨by show 2 ≤ sizeLine; decide, fun p hp => ?_⟩
  have g1 := (Gr.refl (M := M0) kB).new (o := .lst [.int 3, .int r]) hp
  have d1 : Dt K (upd B p (.lst [.int 3, .int r])) (.ref p) ([3, r] : List Int) := dtLI (SqL.of upd_same)
  generalize upd B p (HO.lst [.int 3, .int r]) = B1 at *
  generalize upd H p (HO.lst [.int 3, .int r]) = H1 at *
  refine a_cons (h := e_bin op_rep (h := e_lst ?_))
  walk_at "E"
  refine ⟨by show 1 ≤ sizeLine; decide, fun q hq => ?_⟩
  have g2 := g1.own (o := .lst [.int 0]) hq
  have eq_ : (upd H1 q (.lst [.int 0])) q = some (.lst [.int 0]) := upd_same
  generalize upd H1 q (HO.lst [.int 0]) = H2 at *
  refine e_add (h := ?_)
  walk_at "E"
  walk_at "ii"
  refine rep_k (n := (t + 2).toNat) eq_ (by omega) (by omega) fun q2 hq2 => ?_
  have g3 := g2.new (o := .lst ((List.replicate (t + 2).toNat 0).map V.int)) hq2
  have x3 := ((Gr.refl (M := M0) g2.k).new (o := .lst ((List.replicate (t + 2).toNat 0).map V.int)) hq2).b
  refine a_nil ⟨_, _, _, [3, r], List.replicate (t + 2).toNat 0, rfl, g3.k, d1.mono x3, dtLI (SqL.of upd_same), fun i x hx hn _ => rai _ _ g3.ex ?_, fun h0 h1 => rai _ _ g3.ex ?_, fun r' L e h0 h1 u B' H' g _ => fine ?_ H' (g3.trans g).ex⟩
  · have hx' : x = r := by
      match i, hx with
      | 0, hx => cases hx; exact absurd hn (by decide)
      | 1, hx => cases hx; rfl
    subst hx'
    unfold dueE
    rw [if_neg n4, if_pos hn]
  · have hr0 := h0 r (by simp)
    rw [List.length_replicate] at h1
    have h1' : ¬ (((t + 2).toNat : Nat) : Int) = 2 - 1 := h1
    unfold dueE
    rw [if_neg n4, if_neg (by omega), if_neg n0, if_neg n1, if_neg n2, if_pos (by omega), List.length_replicate]
    congr 1
    omega
  · have hr0 := h0 r (by simp)
    cases e
    rw [List.length_replicate] at h1
    have h1' : 1 = (t + 2).toNat := h1
    unfold dueE
    rw [if_neg n4, if_neg (by omega), if_neg n0, if_neg n1, if_neg n2, if_neg (by omega)]
end
end K35
namespace K35
open PySem L2 Evl Lw
open Te
section
variable {K : PySem.W.Frag} {B H B' H' : Hp} {d F : Addr} {m : Nat} {L : List Er}
/-- errors found so far -/
structure FS (K : PySem.W.Frag) (B H : Hp) (d F : Addr) (m : Nat) (B' H' : Hp) (L : List Er) : Prop where
  g : Gr (Md d) B H B' H'
  j : Jk B' H' d m
  hF : H F = none
  bF : B' F = none
  ex : ∃ acc, H' F = some (.lst acc) ∧ Das K B' acc L
theorem FS.nd (s : FS K B H d F m B' H' L) (h : H d ≠ none) : d ≠ F := fun z => h (z ▸ s.hF)
theorem FS.new (s : FS K B H d F m B' H' L) {p : Addr} {o : HO} (hp : H' p = none) : FS K B H d F m (upd B' p o) (upd H' p o) L := by
  obtain ⟨acc, e, da⟩ := s.ex
  have np : F ≠ p := ne_of_none e hp
  exact ⟨s.g.new hp, s.j.new hp, s.hF, by rw [upd_ne np]; exact s.bF, acc, by rw [upd_ne np]; exact e, da.mono (Ex.new (none_of_ex s.j.k hp))⟩
theorem FS.push (s : FS K B H d F m B' H' L) (hd : d ≠ F) {acc : List V} {v : V} {x : Er} (e : H' F = some (.lst acc)) (hv : Dt K B' v x) : FS K B H d F m B' (upd H' F (.lst (acc ++ [v]))) (L ++ [x]) := by
  obtain ⟨acc', e', da⟩ := s.ex
  rw [e] at e'
  cases e'
  have gm := s.g.mut (o := .lst (acc ++ [v])) (.inr s.hF) s.bF
  refine ⟨gm, ⟨gm.k, s.j.b, ?_⟩, s.hF, s.bF, _, upd_same, da.snoc hv⟩
  obtain ⟨x, y, z, e1, q⟩ := s.j.at_.ex
  exact ⟨x, y, z, by rw [upd_ne hd]; exact e1, q⟩
end
open Classical in
theorem due_first {wd r odd t : Int} {a b : E3} {b1 b2 : Bool} (h1 : b1 = true ↔ Va r a) (h2 : b2 = true ↔ Va r b) (ho : odd = r ∨ odd < 0) (r0 : 0 ≤ r) (w0 : 0 ≤ wd) (w4 : wd ≤ 4) :
    ((((((if wd = 4 then [Er.num (t + 1)] else if odd < 0 then [Er.num odd] else []) ++ (if wd < 2 ∧ b1 = false then [Er.val a] else [])) ++ (if wd = 0 ∧ b2 = false then [Er.val b] else [])) ++ (if wd = 1 ∧ t < 0 then [Er.num t] else [])) ++ (if wd = 3 ∧ t ≠ -1 then [Er.num (t + 2)] else [])) ++ [Er.no])[0]? = some (dueE wd odd a b t) := by
  unfold dueE
  by_cases c4 : wd = 4
  · rw [if_pos c4, if_pos c4]; rfl
  rw [if_neg c4, if_neg c4]
  by_cases co : odd < 0
  · rw [if_pos co, if_pos co]; rfl
  rw [if_neg co, if_neg co]
  have e : odd = r := ho.resolve_right co
  subst e
  have q1 : b1 = false ↔ ¬ Va odd a := by rw [← h1]; cases b1 <;> simp
  have q2 : b2 = false ↔ ¬ Va odd b := by rw [← h2]; cases b2 <;> simp
  have cases4 : wd = 0 ∨ wd = 1 ∨ wd = 2 ∨ wd = 3 := by omega
  rcases cases4 with rfl | rfl | rfl | rfl
  · by_cases va : Va odd a
    · have e1 := h1.mpr va
      by_cases vb : Va odd b
      · have e2 := h2.mpr vb
        simp [va, vb, e1, e2]
      · have e2 := q2.mpr vb
        simp [va, vb, e1, e2]
    · have e1 := q1.mpr va
      simp [va, e1]
  · by_cases va : Va odd a
    · have e1 := h1.mpr va
      by_cases ct : t < 0
      · simp [va, ct, e1]
      · simp [va, ct, e1]
    · have e1 := q1.mpr va
      simp [va, e1]
  · simp
  · by_cases ct : t = -1
    · simp [ct]
    · simp [ct]
end K35
namespace K35
open PySem L2 Evl Lw
open Te
section
variable {P : Program} {w : World} {K : PySem.W.Frag} {mg : Str → Option Value} {base : Heap} {C CV : Addr}
/-! _law_errors_right -/
abbrev N_err : List Str := ["_law_jug_here", "_law_size", "_law_word", "_law_one", "_law_other", "_law_times_here", "_law_odd", "_law_found"]
theorem sc_err : FnScope N_err ["_law_jug_here", "_law_size"] (defScope s_err) := ⟨rfl, rfl, rfl, by decide +kernel, rfl, by decide +kernel, by decide +kernel⟩
def sp_err : Sp := fun vs H Q _ => ∃ (B : Hp) (d : Addr) (r : Int) (n : Nat), vs = [.ref d, .int r] ∧ Jk B H d (n + 100) ∧ 0 ≤ r ∧ r ≤ 7 ∧ ∀ H', Gr (Md d) B H B H' → Jk B H' d n → Q (.bl true) H'
theorem ok_err (mr : mg "range" = none) (e0 : Cal P w K mg base "_law_pour" 1 ["_law_jug_here", "_law_many"] sp_pour) (ea : Cal P w K mg base "_law_any" 2 ["_law_jug_here", "_law_size"] (sp_any K)) (er : Cal P w K mg base "_law_refused" 5 ["_law_word", "_law_size", "_law_one", "_law_other", "_law_times_here"] (sp_ref K)) :
    ∀ f fd, Fun K "_law_errors_right" "_law_errors_right" s_err f fd → FnOk P w K mg base CX0 6 f fd ["_law_jug_here", "_law_size"] sp_err := by
  refine ok_of sc_err (fun vs H Q E h => by obtain ⟨_, _, _, _, rfl, _⟩ := h; rfl) (fun f cdv A0 outer s H vs Q E hr h => ?_)
  obtain ⟨B, d, r, n, rfl, j0, r0, r7, k⟩ := h
  refine s_cons (s_for (h := i_rng1 mr (h := e_int ?_)))
  refine ⟨5, rfl, by decide, by decide, ?_⟩
  refine for_it walk_r0 (fun i σ H' => (∃ u1 u2 u3 u4 u5 u6, σ = [some (.ref d), some (.int r), u1, u2, u3, u4, u5, u6]) ∧ Gr (Md d) B H B H' ∧ Jk B H' d (n + 20 * (5 - i))) ⟨⟨none, none, none, none, none, none, rfl⟩, Gr.refl j0.k, j0⟩ (fun _ _ _ _ _ => trivial) ?_ ?_
  rotate_left
  · rintro σ H' ⟨⟨u1, u2, u3, u4, u5, u6, rfl⟩, g, j⟩
    refine s_one (s_ret ?_)
    walk_at "E"
    exact k H' g (j.le (by omega))
  rintro i x σ H0 H0' hi ⟨⟨u1, u2, u3, u4, u5, u6, rfl⟩, gI, jI⟩ ⟨rfl, rfl⟩
  have hi5 : i < 5 := hi
  refine g_name 2 sc_err.nd (q := ?_)
  have jI' : Jk B H0' d (n + 20 * (4 - i) + 15 + 5) := jI.le (by omega)
  refine s_cons (s_par 3 4 sc_err.nd (h := a_cons (h := e_call ea (hr.mono (by decide)) (h := ?_))))
  walk_at "E"
  refine ⟨B, d, r, _, rfl, jI', r0, r7, fun p v e b B1 H1 g1 j1 hP hv hb => ?_⟩
  refine a_cons (h := e_call ea (hr.mono (by decide)) (h := ?_))
  walk_at "E"
  refine ⟨B1, d, r, n + 20 * (4 - i) + 10, rfl, j1, r0, r7, fun p2 v2 e2 b2 B2 H2 g2 j2 hP2 hv2 hb2 => ?_⟩
  refine a_nil ⟨_, _, rfl, ?_⟩
  refine s_cons (s_par 5 6 sc_err.nd (h := a_cons (h := e_sub (h := e_call e0 (hr.mono (by decide)) (h := ?_)))))
  walk_at "E"
  refine pour_k (n := n + 20 * (4 - i) + 9) j2 (by decide) (by decide) fun x1 H3 x10 x11 g3 j3 => ?_
  walk_at "E"
  walk_at "ii"
  obtain ⟨t, ht⟩ : ∃ t, t = x1 - 1 := ⟨_, rfl⟩
  rw [← ht]
  refine a_cons (h := e_ixL (h := e_lst ?_))
  walk_at "E"
  refine e_sub (h := ?_)
  walk_at "E"
  refine ⟨_, rfl, ?_⟩
  walk_at "E"
  refine ⟨_, _, rfl, rfl, ?_⟩
  walk_at "E"
  refine ⟨by show 3 ≤ sizeLine; decide, fun q hq => ?_⟩
  have j4 := j3.own (o := .lst [.int r, .int r, .int (-1 - r)]) hq
  have g4 := (gI.trans (((g1.trans g2).trans g3))).own (o := .lst [.int r, .int r, .int (-1 - r)]) hq
  have eq_ : (upd H3 q (.lst [.int r, .int r, .int (-1 - r)])) q = some (.lst [.int r, .int r, .int (-1 - r)]) := upd_same
  have ndq : d ≠ q := j3.at_.ne hq
  generalize upd H3 q (HO.lst [.int r, .int r, .int (-1 - r)]) = H4 at *
  refine e_call e0 (hr.mono (by decide)) (h := ?_)
  walk_at "E"
  refine pour_k (n := n + 20 * (4 - i) + 8) j4 (by decide) (by decide) fun c H5 c0 c1 g5 j5 => ?_
  have eq5 := g5.h _ _ (fun z => ndq z.symm) eq_
  obtain ⟨odd, hodd, ho⟩ : ∃ odd : Int, ([V.int r, .int r, .int (-1 - r)])[c.toNat]? = some (.int odd) ∧ (odd = r ∨ odd < 0) := by
    have : c = 0 ∨ c = 1 ∨ c = 2 := by omega
    rcases this with rfl | rfl | rfl
    · exact ⟨r, rfl, .inl rfl⟩
    · exact ⟨r, rfl, .inl rfl⟩
    · exact ⟨-1 - r, rfl, .inr (by omega)⟩
  refine ⟨q, _, c, _, rfl, rfl, SqL.of eq5, at_of (by omega : c = (c.toNat : Int)) hodd, a_nil ⟨_, _, rfl, ?_⟩⟩
  have gA := g4.trans g5
  have dv := hv.mono g2.b
  have hb1 := hb
  have P1 : SqT K B2 p [v, .bl b] := ex_t g2.b hP
  have hd0 : H d ≠ none := j0.at_.nn
  obtain ⟨wd, hwd⟩ : ∃ wd : Int, wd = ((i : Nat) : Int) := ⟨_, rfl⟩
  have w0 : 0 ≤ wd := by omega
  have w4 : wd ≤ 4 := by omega
  rw [← hwd]
  -- the slots
  have rest : ∀ {D' : Ends} (F : Addr) (B6 H6 : Hp), FS K B H d F (n + 20 * (4 - i)) B6 H6 (if wd = 4 then [Er.num (t + 1)] else if odd < 0 then [Er.num odd] else []) → Ex B2 B6 →
      (∀ H', Gr (Md d) B H B H' → Jk B H' d (n + 20 * (4 - i)) → D'.nx [some (.ref d), some (.int r), some (.int wd), some (.ref p), some (.ref p2), some (.int t), some (.int odd), some (.ref F)] H') →
      WSs (cxOf CX0 P w K mg base N_err "_law_errors_right" (defScope s_err) f cdv A0 outer s H E).nox (match (defBody s_err).getD 0 (.Pass ⟨0, 0, 0, 0⟩) with | .For _ _ b _ _ => b.drop 3 | _ => []) D' [some (.ref d), some (.int r), some (.int wd), some (.ref p), some (.ref p2), some (.int t), some (.int odd), some (.ref F)] H6 := by
    intro D' F B6 H6 hs0 xs0 nx
    have nd := hs0.nd hd0
    have st7 : ∀ (B7 H7 : Hp), FS K B H d F (n + 20 * (4 - i)) B7 H7 (((((if wd = 4 then [Er.num (t + 1)] else if odd < 0 then [Er.num odd] else []) ++ (if wd < 2 ∧ b = false then [Er.val e] else [])) ++ (if wd = 0 ∧ b2 = false then [Er.val e2] else [])) ++ (if wd = 1 ∧ t < 0 then [Er.num t] else [])) ++ (if wd = 3 ∧ t ≠ -1 then [Er.num (t + 2)] else [])) → Ex B2 B7 → WSs (cxOf CX0 P w K mg base N_err "_law_errors_right" (defScope s_err) f cdv A0 outer s H E).nox (match (defBody s_err).getD 0 (.Pass ⟨0, 0, 0, 0⟩) with | .For _ _ b _ _ => b.drop 7 | _ => []) D' [some (.ref d), some (.int r), some (.int wd), some (.ref p), some (.ref p2), some (.int t), some (.int odd), some (.ref F)] H7 := by
      intro B7 H7 hs xs
      obtain ⟨acc, eF, dacc⟩ := hs.ex
      have hlen : acc.length ≤ 10 := by
        rw [dacc.len]
        simp only [List.length_append]
        repeat' split
        all_goals simp
      refine s_one (s_if (t_cmp (op_neD hr.units) (h := e_call er hr (h := ?_))))
      walk_at "E"
      refine e_ixT (h := ?_)
      walk_at "E"
      refine ⟨p, _, 0, _, rfl, rfl, ex_t (xs.trans hs.g.k) P1, rfl, ?_⟩
      refine a_cons (h := e_ixT (h := ?_))
      walk_at "E"
      refine ⟨p2, _, 0, _, rfl, rfl, ex_t (xs.trans hs.g.k) hP2, rfl, ?_⟩
      walk_at "E"
      refine ⟨B7, wd, odd, t, v, v2, e, e2, rfl, hs.g.k, dv.mono xs, hv2.mono xs, w0, w4, by omega, by omega, fun v8 B8 H8 g8 d8 => ?_⟩
      have eF8 := g8.ex _ _ eF
      refine e_ixL (h := e_bin op_cat (h := ?_))
      walk_at "E"
      refine ⟨by show 1 ≤ sizeLine; decide, fun p9 hp9 => ?_⟩
      have g9 := g8.own (o := .lst [.non]) hp9
      have eF9 : (upd H8 p9 (.lst [.non])) F = some (.lst acc) := by rw [upd_ne (ne_of_none eF8 hp9)]; exact eF8
      have e99 : (upd H8 p9 (.lst [.non])) p9 = some (.lst [.non]) := upd_same
      generalize upd H8 p9 (HO.lst [.non]) = H9 at *
      refine ⟨F, p9, _, _, rfl, rfl, eF9, e99, Nat.le_trans (by show acc.length + 1 ≤ 100; omega) (by decide), fun q9 hq9 => ?_⟩
      have g10 := g9.own (o := .lst (acc ++ [.non])) hq9
      have e10 : (upd H9 q9 (.lst (acc ++ [.non]))) q9 = some (.lst (acc ++ [.non])) := upd_same
      generalize upd H9 q9 (HO.lst (acc ++ [.non])) = H10 at *
      have dall := (dacc.mono g10.b).snoc (x := Er.no) dtEo
      obtain ⟨v10, ev10, dv10⟩ := dall.at (due_first (t := t) (a := e) (b := e2) hb1 hb2 ho r0 w0 w4)
      walk_at "E"
      refine ⟨q9, _, 0, _, rfl, rfl, SqL.of e10, at_of (j := 0) rfl ev10, ?_⟩
      refine ne_dat (B := B8) (x := dueE wd odd e e2 t) (y := dueE wd odd e e2 t) d8 dv10 g10.k (by decide) ⟨_, rfl, iff_ (by simp) (s_nil ?_)⟩
      have gz := hs.g.trans g10.up
      exact nx H10 (Gr.low gz) (Jk.low j0 gz (hs.j.gr g10) (Nat.le_refl _))
    have st6 : ∀ (B7 H7 : Hp), FS K B H d F (n + 20 * (4 - i)) B7 H7 ((((if wd = 4 then [Er.num (t + 1)] else if odd < 0 then [Er.num odd] else []) ++ (if wd < 2 ∧ b = false then [Er.val e] else [])) ++ (if wd = 0 ∧ b2 = false then [Er.val e2] else [])) ++ (if wd = 1 ∧ t < 0 then [Er.num t] else [])) → Ex B2 B7 → WSs (cxOf CX0 P w K mg base N_err "_law_errors_right" (defScope s_err) f cdv A0 outer s H E).nox (match (defBody s_err).getD 0 (.Pass ⟨0, 0, 0, 0⟩) with | .For _ _ b _ _ => b.drop 6 | _ => []) D' [some (.ref d), some (.int r), some (.int wd), some (.ref p), some (.ref p2), some (.int t), some (.int odd), some (.ref F)] H7 := by
      intro B7 H7 hs xs
      have no : ¬ (wd = 3 ∧ t ≠ -1) → WSs (cxOf CX0 P w K mg base N_err "_law_errors_right" (defScope s_err) f cdv A0 outer s H E).nox (match (defBody s_err).getD 0 (.Pass ⟨0, 0, 0, 0⟩) with | .For _ _ b _ _ => b.drop 7 | _ => []) D' [some (.ref d), some (.int r), some (.int wd), some (.ref p), some (.ref p2), some (.int t), some (.int odd), some (.ref F)] H7 := fun z => st7 B7 H7 (by rw [if_neg z, List.append_nil]; exact hs) xs
      refine s_cons (s_if (t_wb (b_and (t_cmp op_eq (h := ?_)))))
      walk_at "E"
      refine ⟨rfl, _, rfl, ifd (fun c1' => ?_) fun c1 => iff_ rfl (s_nil (no fun z => c1 (by rw [z.1])))⟩
      have c1 : wd = 3 := by simpa using c1'
      refine b_and1 (t_cmp op_ne (h := ?_))
      walk_at "E"
      refine ⟨_, rfl, rfl, _, rfl, ?_⟩
      by_cases c2 : t = -1
      · exact iff_ (by rw [c2]; rfl) (s_nil (no fun z => z.2 c2))
      · refine ift (by simp [c2]) ?_
        obtain ⟨acc, eF, dacc⟩ := hs.ex
        have hlen : acc.length ≤ 10 := by
          rw [dacc.len]
          try simp only [List.length_append]
          repeat' split
          all_goals simp
        refine s_one (s_expr (h := e_bm PySem.F.plainAttrs_list PySem.F.slot_list_append PySem.F.type_list_append mt_append (h := ?_)))
        walk_at "E"
        refine ⟨.inl ⟨rfl, _, SqL.of eF⟩, ?_⟩
        refine a_cons (h := e_tup (a_cons (h := e_str ?_)))
        refine a_cons (h := e_add (h := ?_))
        walk_at "E"
        walk_at "ii"
        walk_at "E"
        refine ⟨by show 2 ≤ sizeLine; decide, fun p6 hp6 => ?_⟩
        have hs6 := hs.new (o := .tup [.str "number", .int (t + 2)]) hp6
        have eF6 : (upd H7 p6 (.tup [.str "number", .int (t + 2)])) F = some (.lst acc) := by rw [upd_ne (ne_of_none eF hp6)]; exact eF
        have x6 : Ex B7 (upd B7 p6 (.tup [.str "number", .int (t + 2)])) := Ex.new (none_of_ex hs.j.k hp6)
        have hv6 : Dt K (upd B7 p6 (.tup [.str "number", .int (t + 2)])) (.ref p6) (Er.num (t + 2)) := dtEn (SqT.of upd_same)
        refine a_nil ⟨F, _, _, rfl, rfl, eF6, Nat.lt_of_le_of_lt (by have := hlen; omega : _ ≤ 100) (by decide), ?_⟩
        exact st7 _ _ (by rw [if_pos (show wd = 3 ∧ t ≠ -1 from ⟨c1, c2⟩)]; exact hs6.push nd eF6 hv6) (xs.trans x6)
    have st5 : ∀ (B7 H7 : Hp), FS K B H d F (n + 20 * (4 - i)) B7 H7 (((if wd = 4 then [Er.num (t + 1)] else if odd < 0 then [Er.num odd] else []) ++ (if wd < 2 ∧ b = false then [Er.val e] else [])) ++ (if wd = 0 ∧ b2 = false then [Er.val e2] else [])) → Ex B2 B7 → WSs (cxOf CX0 P w K mg base N_err "_law_errors_right" (defScope s_err) f cdv A0 outer s H E).nox (match (defBody s_err).getD 0 (.Pass ⟨0, 0, 0, 0⟩) with | .For _ _ b _ _ => b.drop 5 | _ => []) D' [some (.ref d), some (.int r), some (.int wd), some (.ref p), some (.ref p2), some (.int t), some (.int odd), some (.ref F)] H7 := by
      intro B7 H7 hs xs
      have no : ¬ (wd = 1 ∧ t < 0) → WSs (cxOf CX0 P w K mg base N_err "_law_errors_right" (defScope s_err) f cdv A0 outer s H E).nox (match (defBody s_err).getD 0 (.Pass ⟨0, 0, 0, 0⟩) with | .For _ _ b _ _ => b.drop 6 | _ => []) D' [some (.ref d), some (.int r), some (.int wd), some (.ref p), some (.ref p2), some (.int t), some (.int odd), some (.ref F)] H7 := fun z => st6 B7 H7 (by rw [if_neg z, List.append_nil]; exact hs) xs
      refine s_cons (s_if (t_wb (b_and (t_cmp op_eq (h := ?_)))))
      walk_at "E"
      refine ⟨rfl, _, rfl, ifd (fun c1' => ?_) fun c1 => iff_ rfl (s_nil (no fun z => c1 (by rw [z.1])))⟩
      have c1 : wd = 1 := by simpa using c1'
      refine b_and1 (t_cmp op_lt (h := ?_))
      walk_at "E"
      refine ⟨_, _, rfl, rfl, _, rfl, ifd (fun c2 => ?_) fun c2 => s_nil (no fun z => c2 z.2)⟩
      · skip
        obtain ⟨acc, eF, dacc⟩ := hs.ex
        have hlen : acc.length ≤ 10 := by
          rw [dacc.len]
          try simp only [List.length_append]
          repeat' split
          all_goals simp
        refine s_one (s_expr (h := e_bm PySem.F.plainAttrs_list PySem.F.slot_list_append PySem.F.type_list_append mt_append (h := ?_)))
        walk_at "E"
        refine ⟨.inl ⟨rfl, _, SqL.of eF⟩, ?_⟩
        refine a_cons (h := e_tup (a_cons (h := e_str ?_)))
        walk_at "E"
        refine ⟨by show 2 ≤ sizeLine; decide, fun p6 hp6 => ?_⟩
        have hs6 := hs.new (o := .tup [.str "number", .int t]) hp6
        have eF6 : (upd H7 p6 (.tup [.str "number", .int t])) F = some (.lst acc) := by rw [upd_ne (ne_of_none eF hp6)]; exact eF
        have x6 : Ex B7 (upd B7 p6 (.tup [.str "number", .int t])) := Ex.new (none_of_ex hs.j.k hp6)
        have hv6 : Dt K (upd B7 p6 (.tup [.str "number", .int t])) (.ref p6) (Er.num t) := dtEn (SqT.of upd_same)
        refine a_nil ⟨F, _, _, rfl, rfl, eF6, Nat.lt_of_le_of_lt (by have := hlen; omega : _ ≤ 100) (by decide), ?_⟩
        exact st6 _ _ (by rw [if_pos (show wd = 1 ∧ t < 0 from ⟨c1, c2⟩)]; exact hs6.push nd eF6 hv6) (xs.trans x6)
    have st4 : ∀ (B7 H7 : Hp), FS K B H d F (n + 20 * (4 - i)) B7 H7 ((if wd = 4 then [Er.num (t + 1)] else if odd < 0 then [Er.num odd] else []) ++ (if wd < 2 ∧ b = false then [Er.val e] else [])) → Ex B2 B7 → WSs (cxOf CX0 P w K mg base N_err "_law_errors_right" (defScope s_err) f cdv A0 outer s H E).nox (match (defBody s_err).getD 0 (.Pass ⟨0, 0, 0, 0⟩) with | .For _ _ b _ _ => b.drop 4 | _ => []) D' [some (.ref d), some (.int r), some (.int wd), some (.ref p), some (.ref p2), some (.int t), some (.int odd), some (.ref F)] H7 := by
      intro B7 H7 hs xs
      have no : ¬ (wd = 0 ∧ b2 = false) → WSs (cxOf CX0 P w K mg base N_err "_law_errors_right" (defScope s_err) f cdv A0 outer s H E).nox (match (defBody s_err).getD 0 (.Pass ⟨0, 0, 0, 0⟩) with | .For _ _ b _ _ => b.drop 5 | _ => []) D' [some (.ref d), some (.int r), some (.int wd), some (.ref p), some (.ref p2), some (.int t), some (.int odd), some (.ref F)] H7 := fun z => st5 B7 H7 (by rw [if_neg z, List.append_nil]; exact hs) xs
      refine s_cons (s_if (t_wb (b_and (t_cmp op_eq (h := ?_)))))
      walk_at "E"
      refine ⟨rfl, _, rfl, ifd (fun c1' => ?_) fun c1 => iff_ rfl (s_nil (no fun z => c1 (by rw [z.1])))⟩
      have c1 : wd = 0 := by simpa using c1'
      refine b_and1 (t_not (t_val (e_ixT (h := ?_))))
      walk_at "E"
      refine ⟨p2, _, 1, _, rfl, rfl, ex_t (xs.trans hs.g.k) hP2, rfl, _, rfl, ?_⟩
      by_cases hbb : b2 = true
      · exact iff_ (by rw [hbb]; rfl) (s_nil (no fun z => by rw [z.2] at hbb; cases hbb))
      · have hbf : b2 = false := by simpa using hbb
        refine ift (by rw [hbf]; rfl) ?_
        obtain ⟨acc, eF, dacc⟩ := hs.ex
        have hlen : acc.length ≤ 10 := by
          rw [dacc.len]
          try simp only [List.length_append]
          repeat' split
          all_goals simp
        refine s_one (s_expr (h := e_bm PySem.F.plainAttrs_list PySem.F.slot_list_append PySem.F.type_list_append mt_append (h := ?_)))
        walk_at "E"
        refine ⟨.inl ⟨rfl, _, SqL.of eF⟩, ?_⟩
        refine a_cons (h := e_tup (a_cons (h := e_str ?_)))
        refine a_cons (h := e_ixT (h := ?_))
        walk_at "E"
        refine ⟨p2, _, 0, _, rfl, rfl, ex_t (xs.trans hs.g.k) hP2, rfl, ?_⟩
        walk_at "E"
        refine ⟨by show 2 ≤ sizeLine; decide, fun p6 hp6 => ?_⟩
        have hs6 := hs.new (o := .tup [.str "value", v2]) hp6
        have eF6 : (upd H7 p6 (.tup [.str "value", v2])) F = some (.lst acc) := by rw [upd_ne (ne_of_none eF hp6)]; exact eF
        have x6 : Ex B7 (upd B7 p6 (.tup [.str "value", v2])) := Ex.new (none_of_ex hs.j.k hp6)
        have hv6 : Dt K (upd B7 p6 (.tup [.str "value", v2])) (.ref p6) (Er.val e2) := dtEv (SqT.of upd_same) ((hv2.mono xs).mono x6)
        refine a_nil ⟨F, _, _, rfl, rfl, eF6, Nat.lt_of_le_of_lt (by have := hlen; omega : _ ≤ 100) (by decide), ?_⟩
        exact st5 _ _ (by rw [if_pos (show wd = 0 ∧ b2 = false from ⟨c1, hbf⟩)]; exact hs6.push nd eF6 hv6) (xs.trans x6)
    have st3 : ∀ (B7 H7 : Hp), FS K B H d F (n + 20 * (4 - i)) B7 H7 (if wd = 4 then [Er.num (t + 1)] else if odd < 0 then [Er.num odd] else []) → Ex B2 B7 → WSs (cxOf CX0 P w K mg base N_err "_law_errors_right" (defScope s_err) f cdv A0 outer s H E).nox (match (defBody s_err).getD 0 (.Pass ⟨0, 0, 0, 0⟩) with | .For _ _ b _ _ => b.drop 3 | _ => []) D' [some (.ref d), some (.int r), some (.int wd), some (.ref p), some (.ref p2), some (.int t), some (.int odd), some (.ref F)] H7 := by
      intro B7 H7 hs xs
      have no : ¬ (wd < 2 ∧ b = false) → WSs (cxOf CX0 P w K mg base N_err "_law_errors_right" (defScope s_err) f cdv A0 outer s H E).nox (match (defBody s_err).getD 0 (.Pass ⟨0, 0, 0, 0⟩) with | .For _ _ b _ _ => b.drop 4 | _ => []) D' [some (.ref d), some (.int r), some (.int wd), some (.ref p), some (.ref p2), some (.int t), some (.int odd), some (.ref F)] H7 := fun z => st4 B7 H7 (by rw [if_neg z, List.append_nil]; exact hs) xs
      refine s_cons (s_if (t_wb (b_and (t_cmp op_lt (h := ?_)))))
      walk_at "E"
      refine ⟨_, _, rfl, rfl, _, rfl, ifd (fun c1 => ?_) fun c1 => iff_ rfl (s_nil (no fun z => c1 z.1))⟩
      refine b_and1 (t_not (t_val (e_ixT (h := ?_))))
      walk_at "E"
      refine ⟨p, _, 1, _, rfl, rfl, ex_t (xs.trans hs.g.k) P1, rfl, _, rfl, ?_⟩
      by_cases hbb : b = true
      · exact iff_ (by rw [hbb]; rfl) (s_nil (no fun z => by rw [z.2] at hbb; cases hbb))
      · have hbf : b = false := by simpa using hbb
        refine ift (by rw [hbf]; rfl) ?_
        obtain ⟨acc, eF, dacc⟩ := hs.ex
        have hlen : acc.length ≤ 10 := by
          rw [dacc.len]
          try simp only [List.length_append]
          repeat' split
          all_goals simp
        refine s_one (s_expr (h := e_bm PySem.F.plainAttrs_list PySem.F.slot_list_append PySem.F.type_list_append mt_append (h := ?_)))
        walk_at "E"
        refine ⟨.inl ⟨rfl, _, SqL.of eF⟩, ?_⟩
        refine a_cons (h := e_tup (a_cons (h := e_str ?_)))
        refine a_cons (h := e_ixT (h := ?_))
        walk_at "E"
        refine ⟨p, _, 0, _, rfl, rfl, ex_t (xs.trans hs.g.k) P1, rfl, ?_⟩
        walk_at "E"
        refine ⟨by show 2 ≤ sizeLine; decide, fun p6 hp6 => ?_⟩
        have hs6 := hs.new (o := .tup [.str "value", v]) hp6
        have eF6 : (upd H7 p6 (.tup [.str "value", v])) F = some (.lst acc) := by rw [upd_ne (ne_of_none eF hp6)]; exact eF
        have x6 : Ex B7 (upd B7 p6 (.tup [.str "value", v])) := Ex.new (none_of_ex hs.j.k hp6)
        have hv6 : Dt K (upd B7 p6 (.tup [.str "value", v])) (.ref p6) (Er.val e) := dtEv (SqT.of upd_same) ((dv.mono xs).mono x6)
        refine a_nil ⟨F, _, _, rfl, rfl, eF6, Nat.lt_of_le_of_lt (by have := hlen; omega : _ ≤ 100) (by decide), ?_⟩
        exact st4 _ _ (by rw [if_pos (show wd < 2 ∧ b = false from ⟨c1, hbf⟩)]; exact hs6.push nd eF6 hv6) (xs.trans x6)
    exact st3 B6 H6 hs0 xs0
  have go : ∀ {D' : Ends}, (∀ (F : Addr) (B6 H6 : Hp), FS K B H d F (n + 20 * (4 - i)) B6 H6 (if wd = 4 then [Er.num (t + 1)] else if odd < 0 then [Er.num odd] else []) → Ex B2 B6 → D'.nx [some (.ref d), some (.int r), some (.int wd), some (.ref p), some (.ref p2), some (.int t), some (.int odd), some (.ref F)] H6) →
      WS (cxOf CX0 P w K mg base N_err "_law_errors_right" (defScope s_err) f cdv A0 outer s H E).nox (match (defBody s_err).getD 0 (.Pass ⟨0, 0, 0, 0⟩) with | .For _ _ b _ _ => b.getD 2 (.Pass ⟨0, 0, 0, 0⟩) | x => x) D' [some (.ref d), some (.int r), some (.int wd), some (.ref p), some (.ref p2), some (.int t), some (.int odd), u6] H5 := by
    intro D' q
    have one : ∀ (m : Int) (Hx : Hp) (p5 : Addr) (L : List Er), L = [Er.num m] → H5 p5 = none → Hx = upd H5 p5 (.tup [.str "number", .int m]) → ∀ F, Hx F = none → FS K B H d F (n + 20 * (4 - i)) (upd B2 p5 (.tup [.str "number", .int m])) (upd Hx F (.lst [.ref p5])) L ∧ Ex B2 (upd B2 p5 (.tup [.str "number", .int m])) := by
      intro m Hx p5 L eL hp5 eH F hF
      subst eH; subst eL
      have gB := gA.new (o := .tup [.str "number", .int m]) hp5
      have jB := j5.new (o := .tup [.str "number", .int m]) hp5
      have x5 := (Ex.new (o := .tup [.str "number", .int m]) (none_of_ex j5.k hp5))
      refine ⟨⟨gB.own hF, (jB.own hF).le (by omega), gB.free hF, none_of_ex jB.k hF, _, upd_same, .cons (dtEn (SqT.of upd_same)) .nil⟩, x5⟩
    refine s_set 7 sc_err.nd (h := e_if (t_cmp op_eq (h := ?_)))
    walk_at "E"
    refine ⟨rfl, _, rfl, ifd (fun c => ?_) fun c => ?_⟩
    · have c' : wd = 4 := by simpa using c
      refine e_lst (a_cons (h := e_tup (a_cons (h := e_str (a_cons (h := e_add (h := ?_)))))))
      walk_at "E"
      walk_at "ii"
      walk_at "E"
      refine ⟨by show 2 ≤ sizeLine; decide, fun p5 hp5 => ?_⟩
      walk_at "E"
      refine ⟨by show 1 ≤ sizeLine; decide, fun F hF => ?_⟩
      obtain ⟨h1, h2⟩ := one (t + 1) _ p5 (if wd = 4 then [Er.num (t + 1)] else if odd < 0 then [Er.num odd] else []) (by rw [if_pos c']) hp5 rfl F hF
      exact q F _ _ h1 h2
    · have c' : ¬ wd = 4 := by simpa using c
      refine e_if (t_cmp op_lt (h := ?_))
      walk_at "E"
      refine ⟨_, _, rfl, rfl, _, rfl, ifd (fun c2 => ?_) fun c2 => ?_⟩
      · refine e_lst (a_cons (h := e_tup ?_))
        walk_at "E"
        refine ⟨by show 2 ≤ sizeLine; decide, fun p5 hp5 => ?_⟩
        walk_at "E"
        refine ⟨by show 1 ≤ sizeLine; decide, fun F hF => ?_⟩
        obtain ⟨h1, h2⟩ := one odd _ p5 (if wd = 4 then [Er.num (t + 1)] else if odd < 0 then [Er.num odd] else []) (by rw [if_neg c', if_pos c2]) hp5 rfl F hF
        exact q F _ _ h1 h2
      · refine e_lst (a_nil ⟨Nat.zero_le _, fun F hF => ?_⟩)
        refine q F B2 _ ⟨gA.own hF, (j5.own hF).le (by omega), gA.free hF, none_of_ex j5.k hF, _, upd_same, ?_⟩ (Ex.refl _)
        rw [if_neg c', if_neg c2]
        exact .nil
  exact s_cons (go fun F B6 H6 hs xs => rest F B6 H6 hs xs fun H' g j => ⟨⟨_, _, _, _, _, _, rfl⟩, g, j.le (by omega)⟩)
end
end K35
namespace K35
open PySem L2 Evl Lw
open Te
section
variable {P : Program} {w : World} {K : PySem.W.Frag} {mg : Str → Option Value} {base : Heap} {C CV : Addr}
/-! _law_great_right -/
abbrev N_gr : List Str := ["_law_jug_here", "_law_size", "_law_effect", "_law_width", "_law_times_here", "_law_due", "_law_far", "_law_by", "_law_many", "_law_turns_here", "_law_more", "_law_both", "_law_sizes", "_law_turn"]
theorem sc_gr : FnScope N_gr ["_law_jug_here", "_law_size", "_law_effect", "_law_width", "_law_times_here"] (defScope s_gr) := ⟨rfl, rfl, rfl, by decide +kernel, rfl, by decide +kernel, by decide +kernel⟩
def sp_gr (K : PySem.W.Frag) : Sp := fun vs H Q _ => ∃ (B : Hp) (d : Addr) (v : V) (r m t : Int) (e : E3) (n : Nat), vs = [.ref d, .int r, v, .int m, .int t] ∧ Jk B H d (n + 200) ∧ Dt K B v e ∧ Va r e ∧ r ≤ 7 ∧ 1 ≤ m ∧ m ≤ 20000000000000000000000000 ∧ 0 ≤ t ∧ ∀ H', Gr (Md d) B H B H' → Jk B H' d n → Q (.bl true) H'
theorem big {x : Int} (h : x.natAbs ≤ 1000000000000000000000000000000) : x.natAbs < 2 ^ 200 := by
  have e200 : (2 : Nat) ^ 200 = 1606938044258990275541962092341162602522202993782792835301376 := by decide
  rw [e200]; omega
theorem big2 {x : Int} (h : x.natAbs ≤ 1000000000000000000000000000000) : x.natAbs < 2 ^ 250 := Nat.lt_of_lt_of_le (big h) (by decide)
theorem ok_gr (S : PC P w K mg base C CV) (mr : mg "range" = none) (e0 : Cal P w K mg base "_law_pour" 1 ["_law_jug_here", "_law_many"] sp_pour) (ee : Cal P w K mg base "_law_ends_right" 2 ["_law_jug_here", "_law_told", "_law_sizes", "_law_turns_here"] (sp_er K)) :
    ∀ f fd, Fun K "_law_great_right" "_law_great_right" s_gr f fd → FnOk P w K mg base CX0 5 f fd ["_law_jug_here", "_law_size", "_law_effect", "_law_width", "_law_times_here"] (sp_gr K) := by
  refine ok_of sc_gr (fun vs H Q E h => by obtain ⟨_, _, _, _, _, _, _, _, rfl, _⟩ := h; rfl) (fun f cdv A0 outer s H vs Q E hr h => ?_)
  obtain ⟨B, d, v, r, m, t, e, n, rfl, j0, hd, ve, r7, m0, m1, t0, k⟩ := h
  have r0 := ve.r0
  have hm : m.natAbs < 2 ^ 200 := big (by omega)
  have e29 : (10 : Int) ^ (29 : Int).toNat = 100000000000000000000000000000 := by decide
  have e28 : (10 : Int) ^ (28 : Int).toNat = 10000000000000000000000000000 := by decide
  have e9 : (10 : Int) ^ (9 : Int).toNat = 1000000000 := by decide
  have vm : Va (m * r) (sc m e) := V_sc (by omega) ve
  have mr0 := vm.r0
  -- times the width
  refine s_cons (s_set 5 sc_gr.nd (h := e_call S.tim (hr.mono (by decide)) (h := a_cons (h := e_callX S.re takes0 hr (h := ?_)))))
  walk_at "E"
  refine ⟨B, _, r, e, t, rfl, j0.k, hd, fun z => absurd z (by omega), fun _ z => absurd ve z, fun _ z => absurd z (by omega), fun _ _ v1 B1 H1 g1 d1 => ?_⟩
  walk_at "E"
  refine ⟨_, _, m, _, rfl, g1.k, d1, hm, va_sm (pw_V ve _) (by omega), fun v2 B2 H2 g2 d2 => ?_⟩
  have gA := g1.trans g2
  refine s_cons (s_if (t_cmp (op_neD hr.units) (h := e_callX S.re takes0 hr (h := a_cons (h := e_mul (h := ?_))))))
  walk_at "E"
  refine ⟨_, _, rfl, rfl, wide_mul (a := 200) (b := 200) hm (big (by omega)) (by decide) (by decide) (by decide), ?_⟩
  refine a_cons (h := e_call S.tim (hr.mono (by decide)) (h := ?_))
  walk_at "E"
  refine ⟨_, _, m, e, rfl, gA.k, hd.mono gA.b, hm, va_sm ve (by omega), fun v3 B3 H3 g3 d3 => ?_⟩
  walk_at "E"
  refine ⟨B3, _, m * r, sc m e, t, rfl, g3.k, d3, fun z => absurd z (by omega), fun _ z => absurd vm z, fun _ z => absurd z (by omega), fun _ _ v4 B4 H4 g4 d4 => ?_⟩
  rw [pw_sc (by omega)] at d4
  walk_at "E"
  refine ne_dat (B := B4) (x := sc m (pw r e t.toNat)) (y := sc m (pw r e t.toNat)) d4 (d2.mono (g3.trans g4).b) g4.k (by decide) ⟨_, rfl, iff_ (by simp) (s_nil ?_)⟩
  have gB := (gA.trans g3).trans g4
  have jB := j0.gr gB
  have gC := Gr.low (M := Md d) gB.up
  have jC : Jk B H4 d (n + 200) := Jk.low j0 gB.up jB (Nat.le_refl _)
  clear d1 d2 d3 d4 g1 g2 g3 g4 gA gB jB
  -- far, by, many
  refine s_cons (s_par3 6 7 8 sc_gr.nd (h := a_cons (h := e_add (h := e_pow (h := ?_)))))
  walk_at "E"
  refine ⟨_, _, rfl, rfl, ⟨by decide, by decide, by decide⟩, ?_⟩
  rw [e29]
  refine e_call e0 (hr.mono (by decide)) (h := ?_)
  walk_at "E"
  refine e_pow (h := ?_)
  walk_at "E"
  refine ⟨_, _, rfl, rfl, ⟨by decide, by decide, by decide⟩, ?_⟩
  rw [e9]
  walk_at "E"
  refine pour_k (n := n + 199) jC (by decide) (by decide) fun x1 H5 x10 x11 g5 j5 => ?_
  refine ⟨_, _, rfl, rfl, ?_⟩
  refine a_cons (h := e_add (h := ?_))
  walk_at "E"
  refine e_call e0 (hr.mono (by decide)) (h := ?_)
  walk_at "E"
  refine pour_k (n := n + 198) j5 (by decide) (by decide) fun x2 H6 x20 x21 g6 j6 => ?_
  refine ⟨_, _, rfl, rfl, ?_⟩
  refine a_cons (h := e_add (h := ?_))
  walk_at "E"
  refine e_call e0 (hr.mono (by decide)) (h := ?_)
  walk_at "E"
  refine e_mul (h := ?_)
  walk_at "E"
  refine e_pow (h := ?_)
  walk_at "E"
  refine ⟨_, _, rfl, rfl, ⟨by decide, by decide, by decide⟩, ?_⟩
  rw [e28]
  refine ⟨_, _, rfl, rfl, wide_mul (a := 200) (b := 200) (by decide) (by decide) (by decide) (by decide) (by decide), ?_⟩
  walk_at "E"
  refine pour_k (n := n + 197) j6 (by decide) (by decide) fun x3 H7 x30 x31 g7 j7 => ?_
  refine ⟨_, _, rfl, rfl, ?_⟩
  refine a_nil ⟨_, _, _, rfl, ?_⟩
  obtain ⟨far, hfar⟩ : ∃ far : Int, far = 100000000000000000000000000000 + x1 := ⟨_, rfl⟩
  obtain ⟨by_, hby⟩ : ∃ by_ : Int, by_ = 1 + x2 := ⟨_, rfl⟩
  obtain ⟨many, hmany⟩ : ∃ many : Int, many = 1 + x3 := ⟨_, rfl⟩
  rw [← hfar, ← hby, ← hmany]
  have gD := ((gC.trans g5).trans g6).trans g7
  have nn : by_ * (many.toNat : Nat) = by_ * many := by rw [Int.toNat_of_nonneg (by omega)]
  have hbm : CMulW by_ many := wide_mul (a := 200) (b := 200) (big (by omega)) (big (by omega)) (by decide) (by decide) (by decide)
  have V1 : Va far ⟨by_, by_, far⟩ := ⟨by omega, by show 0 ≤ by_; omega, by show by_ ≤ far; omega, by show far ≤ far; omega, fun _ => by show far - far ≤ by_ ∧ by_ ≤ by_; omega, fun z => by have z' : by_ = far := z; omega⟩
  have V2 : Va far ⟨0 - by_, 0, far - by_⟩ := ⟨by omega, by show (0 : Int) ≤ 0; omega, by show 0 ≤ far - by_; omega, by show far - by_ ≤ far; omega, fun _ => by show far - by_ - far ≤ 0 - by_ ∧ 0 - by_ ≤ 0; omega, fun z => by have z' : 0 = far - by_ := z; omega⟩
  have w1 : pw far ⟨by_, by_, far⟩ many.toNat = if by_ * many < far then ⟨by_ * many, by_ * many, far⟩ else ⟨0, far, far⟩ := by rw [pw_down (by omega) (by omega) (by omega), nn]
  have w2 : pw far ⟨0 - by_, 0, far - by_⟩ many.toNat = if by_ * many < far then ⟨0 - by_ * many, 0, far - by_ * many⟩ else ⟨0, 0, 0⟩ := by rw [pw_up (by omega) (by omega) (by omega), nn]
  have st7 : ∀ (vd : V) (H8 : Hp), Gr (Md d) B H B H8 → Jk B H8 d (n + 197) → WSs (cxOf CX0 P w K mg base N_gr "_law_great_right" (defScope s_gr) f cdv A0 outer s H E).nox ((defBody s_gr).drop 7) { nx := fun _ H' => Q .non H', rt := Q } [some (.ref d), some (.int r), some v, some (.int m), some (.int t), some vd, some (.int far), some (.int by_), some (.int many), none, none, none, none, none] H8 := by
    intro vd H8 gE jE
    -- turns
    refine s_cons (s_setLc 9 [("_law_turn", 13)] sc_gr.nd (ok := blkOk_by (N := N_gr) (sc := defScope s_gr) (by decide +kernel)) (h := i_rng1 mr (h := e_call e0 (hr.mono (by decide)) (h := ?_))))
    walk_at "E"
    refine pour_k (n := n + 196) jE (by decide) (by decide) fun c1 H9 c10 c11 g9 j9 => ?_
    refine ⟨_, rfl, by omega, by omega, fun D hD => lcPour 1 (m := n + 180) walk_range (fun _ => True) (j9.le (by omega)) hD (Nat.lt_of_le_of_lt (by omega : c1.toNat ≤ 6) (by decide)) (fun _ _ _ _ _ => trivial) ?_ ?_⟩
    · rintro i q x B' H' H'' hi g j' ⟨rfl, rfl⟩ KT KF kt s0 H0 C0 cl fp
      refine g_name 13 sc_gr.nd (q := ⟨rfl, ?_⟩)
      intro s0 H0 C0 cl fp
      refine ts_nil (ift rfl ?_)
      intro s0 H0 C0 cl fp
      refine e_sub (h := e_call e0 (hr.mono (by decide)) (h := ?_))
      walk_at "E"
      refine e_mul (h := ?_)
      walk_at "E"
      refine e_pow (h := ?_)
      walk_at "E"
      refine ⟨_, _, rfl, rfl, ⟨by decide, by decide, by decide⟩, ?_⟩
      rw [e29]
      refine ⟨_, _, rfl, rfl, wide_mul (a := 200) (b := 200) (by decide) (by decide) (by decide) (by decide) (by decide), ?_⟩
      walk_at "E"
      refine pour_k j' (by decide) (by decide) fun r' H4 r0' r1' g4 j4 => ?_
      refine e_pow (h := ?_)
      walk_at "E"
      refine ⟨_, _, rfl, rfl, ⟨by decide, by decide, by decide⟩, ?_⟩
      rw [e29]
      walk_at "ii"
      exact kt _ B' H4 g4 j4 trivial
    intro B2 H2 ns g2 j2 b2 eD hl _
    have hDn : d ≠ D := j9.at_.ne hD
    -- more turns
    refine s_cons (s_set 9 sc_gr.nd (h := e_bin op_cat (h := ?_)))
    walk_at "nm"
    refine e_lc [("_law_turn", 13)] sc_gr.nd (ok := blkOk_by (N := N_gr) (sc := defScope s_gr) (by decide +kernel)) (h := i_rng1 mr (h := e_call e0 (hr.mono (by decide)) (h := ?_)))
    walk_at "E"
    refine pour_k (n := n + 179) j2 (by decide) (by decide) fun c2 H10 c20 c21 g10 j10 => ?_
    have eD10 := g10.h _ _ (fun z => hDn z.symm) eD
    refine ⟨_, rfl, by omega, by omega, fun D2 hD2 => lcPour 1 (m := n + 170) walk_range (fun _ => True) (j10.le (by omega)) hD2 (Nat.lt_of_le_of_lt (by omega : c2.toNat ≤ 6) (by decide)) (fun _ _ _ _ _ => trivial) ?_ ?_⟩
    · rintro i q x B' H' H'' hi g j' ⟨rfl, rfl⟩ KT KF kt s0 H0 C0 cl fp
      refine g_name 13 sc_gr.nd (q := ⟨rfl, ?_⟩)
      intro s0 H0 C0 cl fp
      refine ts_nil (ift rfl ?_)
      intro s0 H0 C0 cl fp
      refine e_sub (h := e_call e0 (hr.mono (by decide)) (h := ?_))
      walk_at "E"
      refine pour_k j' (by decide) (by decide) fun r' H4 r0' r1' g4 j4 => ?_
      walk_at "E"
      walk_at "ii"
      exact kt _ B' H4 g4 j4 trivial
    intro B3 H3 ns2 g3 j3 b3 eD3 hl2 _
    have eD11 := g3.h _ _ (fun z => hDn z.symm) eD10
    refine cat_k eD11 eD3 (by omega) fun q hq => ?_
    obtain ⟨T, hT⟩ : ∃ T, T = ns ++ ns2 := ⟨_, rfl⟩
    have lT : T.length ≤ 20 := by rw [hT, List.length_append]; omega
    rw [← hT]
    have gF := ((((gE.trans g9).trans g2).trans g10).trans g3).new (o := .lst (T.map V.int)) hq
    have jF := j3.new (o := .lst (T.map V.int)) hq
    have eT : (upd B3 q (.lst (T.map V.int))) q = some (.lst (T.map V.int)) := upd_same
    generalize upd B3 q (HO.lst (T.map V.int)) = B4 at *
    generalize upd H3 q (HO.lst (T.map V.int)) = H11 at *
    clear eD11 eD3 eD10 eD g9 g2 g10 g3 j9 j2 j10 j3 b2 b3
    -- more
    refine s_cons (s_setLc 10 [("_law_turn", 13)] sc_gr.nd (ok := blkOk_by (N := N_gr) (sc := defScope s_gr) (by decide +kernel)) (h := i_rng1 mr (h := e_call e0 (hr.mono (by decide)) (h := ?_))))
    walk_at "E"
    refine pour_k (n := n + 169) jF (by decide) (by decide) fun c3 H12 c30 c31 g12 j12 => ?_
    refine ⟨_, rfl, by omega, by omega, fun D4 hD4 => lcPour 1 (m := n + 160) walk_range (fun _ => True) (j12.le (by omega)) hD4 (Nat.lt_of_le_of_lt (by omega : c3.toNat ≤ 6) (by decide)) (fun _ _ _ _ _ => trivial) ?_ ?_⟩
    · rintro i q x B' H' H'' hi g j' ⟨rfl, rfl⟩ KT KF kt s0 H0 C0 cl fp
      refine g_name 13 sc_gr.nd (q := ⟨rfl, ?_⟩)
      intro s0 H0 C0 cl fp
      refine ts_nil (ift rfl ?_)
      intro s0 H0 C0 cl fp
      refine e_sub (h := e_call e0 (hr.mono (by decide)) (h := ?_))
      walk_at "E"
      refine e_mul (h := ?_)
      walk_at "E"
      refine e_pow (h := ?_)
      walk_at "E"
      refine ⟨_, _, rfl, rfl, ⟨by decide, by decide, by decide⟩, ?_⟩
      rw [e29]
      refine ⟨_, _, rfl, rfl, wide_mul (a := 200) (b := 200) (by decide) (by decide) (by decide) (by decide) (by decide), ?_⟩
      walk_at "E"
      refine pour_k j' (by decide) (by decide) fun r' H4 r0' r1' g4 j4 => ?_
      refine e_pow (h := ?_)
      walk_at "E"
      refine ⟨_, _, rfl, rfl, ⟨by decide, by decide, by decide⟩, ?_⟩
      rw [e29]
      walk_at "ii"
      exact kt _ B' H4 g4 j4 trivial
    intro B5 H13 M g13 j13 b13 eD4 hlM _
    have lM : M.length ≤ 20 := by omega
    have gG := (gF.trans g12).trans g13
    have gH := gG.learn ((gF.trans g12).free hD4) b13 eD4
    have eM : (upd B5 D4 (.lst (M.map V.int))) D4 = some (.lst (M.map V.int)) := upd_same
    have jH : Jk (upd B5 D4 (.lst (M.map V.int))) H13 d (n + 160) := ⟨gH.k, gH.f d j0.b j0.at_.nn, j13.at_⟩
    have eT5 : (upd B5 D4 (.lst (M.map V.int))) q = some (.lst (T.map V.int)) := (g12.b.trans (g13.b.trans (Ex.new b13))) _ _ eT
    generalize upd B5 D4 (HO.lst (M.map V.int)) = B6 at *
    clear gG g13 j13 b13 eD4 g12 j12 jF gF eT
    have dT : Dt K B6 (.ref q) T := dtLI (SqL.of eT5)
    have dM : Dt K B6 (.ref D4) M := dtLI (SqL.of eM)
    have f0 : 0 ≤ far := by omega
    -- both
    refine s_cons (s_set 11 sc_gr.nd (h := e_callX S.je takes0 hr (h := ?_)))
    walk_at "E"
    refine e_callX S.on takes0 hr (h := ?_)
    walk_at "E"
    refine ⟨B6, _, far, T, rfl, jH.k, dT, by omega, fun _ va B7 H14 g14 d14 => ?_, fun z => absurd z (by omega)⟩
    refine a_cons (h := e_callX S.on takes0 hr (h := ?_))
    walk_at "E"
    refine ⟨B7, _, far, M, rfl, g14.k, dM.mono g14.b, by omega, fun _ vb B8 H15 g15 d15 => ?_, fun z => absurd z (by omega)⟩
    walk_at "E"
    refine ⟨B8, _, _, far, effC far T, effC far M, rfl, g15.k, d14.mono g15.b, d15, fun z => absurd z (by omega), fun _ z => absurd (effC_V f0 T) z, fun _ z => absurd (effC_V f0 M) z, fun _ _ vc B9 H16 g16 d16 => ?_⟩
    rw [effC_join f0] at d16
    have gI' := (g14.trans g15).trans g16
    have gI := gH.trans gI'.up
    have jI := jH.gr gI'
    have dT9 := dT.mono gI'.b
    have eT9 := gI'.b _ _ eT5
    have eM9 := gI'.b _ _ eM
    clear d14 d15 g14 g15 g16
    refine s_cons (s_if (t_not (t_val (e_call ee (hr.mono (by decide)) (h := ?_)))))
    walk_at "E"
    refine e_bin op_rep (h := e_lst ?_)
    walk_at "E"
    refine ⟨by show 1 ≤ sizeLine; decide, fun p3 hp3 => ?_⟩
    have gJ := (Gr.refl (M := M0) jI.k).own (o := .lst [.int far]) hp3
    have eI : (upd H16 p3 (.lst [.int far])) p3 = some (.lst [.int far]) := upd_same
    generalize upd H16 p3 (HO.lst [.int far]) = H17 at *
    refine e_add (h := e_blt call_len_seq S.ml PySem.boot_len (a_cons (h := e_bin op_cat (h := ?_))))
    walk_at "E"
    refine cat_k (gJ.k _ _ eT9) (gJ.k _ _ eM9) (by omega) fun p4 hp4 => ?_
    have gK := gJ.own (o := .lst ((T ++ M).map V.int)) hp4
    have eJ : (upd H17 p4 (.lst ((T ++ M).map V.int))) p3 = some (.lst [.int far]) := by rw [upd_ne (ne_of_none eI hp4)]; exact eI
    have eK : (upd H17 p4 (.lst ((T ++ M).map V.int))) p4 = some (.lst ((T ++ M).map V.int)) := upd_same
    generalize upd H17 p4 (HO.lst ((T ++ M).map V.int)) = H18 at *
    walk_at "E"
    refine ⟨_, _, rfl, .inl (SqL.of eK), ?_⟩
    walk_at "E"
    walk_at "ii"
    refine rep_k (n := (T ++ M).length + 1) eJ (by rw [List.length_map]; rfl) (by rw [List.length_append]; omega) fun q3 hq3 => ?_
    have gL := gK.new (o := .lst ((List.replicate ((T ++ M).length + 1) far).map V.int)) hq3
    have dL : Dt K (upd B9 q3 (.lst ((List.replicate ((T ++ M).length + 1) far).map V.int))) (.ref q3) (far :: cr far (T ++ M)) := dtLI (SqL.of upd_same)
    generalize upd B9 q3 (HO.lst ((List.replicate ((T ++ M).length + 1) far).map V.int)) = B10 at *
    generalize upd H18 q3 (HO.lst ((List.replicate ((T ++ M).length + 1) far).map V.int)) = H19 at *
    refine a_cons (h := e_bin op_cat (h := ?_))
    walk_at "E"
    refine cat_k (gL.k _ _ (gL.b _ _ eT9)) (gL.k _ _ (gL.b _ _ eM9)) (by omega) fun p5 hp5 => ?_
    have gM := gL.new (o := .lst ((T ++ M).map V.int)) hp5
    have xM := ((Gr.refl (M := M0) gL.k).new (o := .lst ((T ++ M).map V.int)) hp5).b
    have dM2 : Dt K (upd B10 p5 (.lst ((T ++ M).map V.int))) (.ref p5) (T ++ M) := dtLI (SqL.of upd_same)
    generalize upd B10 p5 (HO.lst ((T ++ M).map V.int)) = B11 at *
    generalize upd H19 p5 (HO.lst ((T ++ M).map V.int)) = H20 at *
    have jM : Jk B11 H20 d (n + 150 + 10) := (jI.gr gM).le (by omega)
    refine a_nil ⟨B11, d, _, _, _, far, cr far (T ++ M), T ++ M, n + 150, rfl, jM, d16.mono gM.b, dL.mono xM, dM2, cr_len _ _, f0, by omega, fun l hl => by rw [cr_mem hl]; exact f0, fun H21 g21 j21 => ⟨_, rfl, iff_ rfl (s_nil ?_)⟩⟩
    have gN := (gI.trans gM.up).trans g21
    have eT11 := gM.b _ _ eT9
    have dT11 := dT9.mono gM.b
    clear gJ eI eJ eK gK gL dL dM2 xM jM
    -- sizes
    refine s_cons (s_set 12 sc_gr.nd (h := e_bin op_cat (h := e_lc [("_law_turn", 13)] sc_gr.nd (ok := blkOk_by (N := N_gr) (sc := defScope s_gr) (by decide +kernel)) (h := i_list ?_))))
    walk_at "E"
    refine ⟨_, rfl, ⟨_, SqL.of (j21.k _ _ eT11)⟩, fun D5 hD5 => lcPour 1 (m := n + 100) (walk_list (K := K) (a := q) (xs := T.map V.int)) (fun z => 0 ≤ z ∧ z < 200000000000000000000000000000) (j21.le (by rw [List.length_map]; omega)) hD5 (Nat.lt_of_le_of_lt (by rw [List.length_map]; exact lT) (by decide)) (fun B' H' q g _ => SqL.of (g.k _ _ (g.b _ _ eT11))) ?_ ?_⟩
    · rintro i q x B' H' H'' hi g j' ⟨rfl, hx⟩ KT KF kt s0 H0 C0 cl fp
      refine g_name 13 sc_gr.nd (q := ⟨rfl, ?_⟩)
      intro s0 H0 C0 cl fp
      refine ts_nil (ift rfl ?_)
      intro s0 H0 C0 cl fp
      refine e_call e0 (hr.mono (by decide)) (h := ?_)
      walk_at "E"
      refine e_mul (h := ?_)
      walk_at "E"
      refine e_pow (h := ?_)
      walk_at "E"
      refine ⟨_, _, rfl, rfl, ⟨by decide, by decide, by decide⟩, ?_⟩
      rw [e29]
      refine ⟨_, _, rfl, rfl, wide_mul (a := 200) (b := 200) (by decide) (by decide) (by decide) (by decide) (by decide), ?_⟩
      walk_at "E"
      refine pour_k j' (by decide) (by decide) fun r' H4 r0' r1' g4 j4 => ?_
      exact kt _ B' H4 g4 j4 ⟨r0', r1'⟩
    intro B12 H22 zs g22 j22 b22 eD5 hlz hpz
    rw [List.length_map] at hlz
    have nD5 : d ≠ D5 := j21.at_.ne hD5
    refine e_lst (a_cons (h := e_call e0 (hr.mono (by decide)) (h := ?_)))
    walk_at "E"
    refine e_pow (h := ?_)
    walk_at "E"
    refine ⟨_, _, rfl, rfl, ⟨by decide, by decide, by decide⟩, ?_⟩
    rw [e29]
    walk_at "E"
    refine pour_k (n := n + 99) j22 (by decide) (by decide) fun x9 H23 x90 x91 g23 j23 => ?_
    have eD6 := g23.h _ _ (fun z => nD5 z.symm) eD5
    refine a_nil ⟨by show 1 ≤ sizeLine; decide, fun p6 hp6 => ?_⟩
    have g24 := (g22.trans g23).own (o := .lst [.int x9]) hp6
    have eD7 : (upd H23 p6 (.lst [.int x9])) D5 = some (.lst (zs.map V.int)) := by rw [upd_ne (ne_of_none eD6 hp6)]; exact eD6
    have eP7 : (upd H23 p6 (.lst [.int x9])) p6 = some (.lst (([x9] : List Int).map V.int)) := upd_same
    have j24 := j23.own (o := .lst [.int x9]) hp6
    generalize upd H23 p6 (HO.lst [.int x9]) = H24 at *
    refine cat_k eD7 eP7 (by show zs.length + 1 ≤ 10000; omega) fun qs hqs => ?_
    obtain ⟨r9, L, eL, lL, r90, r91, L0⟩ : ∃ r9 L, zs ++ [x9] = r9 :: L ∧ L.length = T.length ∧ 0 ≤ r9 ∧ r9 < 200000000000000000000000000000 ∧ ∀ l ∈ L, 0 ≤ l := by
      have all : ∀ l ∈ zs ++ [x9], 0 ≤ l ∧ l < 200000000000000000000000000000 := fun l hl => by
        rcases List.mem_append.mp hl with h | h
        · exact hpz l h
        · rw [List.mem_singleton.mp h]; omega
      have hlen : (zs ++ [x9]).length = T.length + 1 := by rw [List.length_append, hlz]; rfl
      cases e : zs ++ [x9] with
      | nil => rw [e] at hlen; cases hlen
      | cons r L =>
        rw [e] at all hlen
        have h1 := all r List.mem_cons_self
        exact ⟨r, L, rfl, Nat.succ.inj hlen, h1.1, h1.2, fun l hl => (all l (List.mem_cons_of_mem _ hl)).1⟩
    rw [eL]
    have gO := g24.new (o := .lst ((r9 :: L).map V.int)) hqs
    have jO : Jk (upd B12 qs (.lst ((r9 :: L).map V.int))) (upd H24 qs (.lst ((r9 :: L).map V.int))) d (n + 99) := j24.new hqs
    have dS : Dt K (upd B12 qs (.lst ((r9 :: L).map V.int))) (.ref qs) (r9 :: L) := dtLI (SqL.of upd_same)
    have dT12 := dT11.mono gO.b
    generalize upd B12 qs (HO.lst ((r9 :: L).map V.int)) = B13 at *
    generalize upd H24 qs (HO.lst ((r9 :: L).map V.int)) = H25 at *
    have gP := gN.trans gO
    have S0 : ∀ z ∈ (r9 :: L), (0 : Int) ≤ z := fun z hz => by
      rcases List.mem_cons.mp hz with rfl | h
      · exact r90
      · exact L0 z h
    -- on
    refine s_cons (s_if (t_not (t_val (e_call ee (hr.mono (by decide)) (h := ?_)))))
    walk_at "E"
    refine e_callX S.on takes0 hr (h := ?_)
    walk_at "E"
    refine ⟨B13, _, far, T, rfl, jO.k, dT12, by omega, fun _ vg B14 H26 g26 d26 => ?_, fun z => absurd z (by omega)⟩
    refine a_cons (h := e_bin op_rep (h := e_lst ?_))
    walk_at "E"
    refine ⟨by show 1 ≤ sizeLine; decide, fun p7 hp7 => ?_⟩
    have gQ := g26.own (o := .lst [.int far]) hp7
    have eQ : (upd H26 p7 (.lst [.int far])) p7 = some (.lst [.int far]) := upd_same
    generalize upd H26 p7 (HO.lst [.int far]) = H27 at *
    refine e_blt call_len_seq S.ml PySem.boot_len ?_
    walk_at "E"
    obtain ⟨_, e0', hS14⟩ := dt_ints (dS.mono g26.b)
    cases e0'
    refine ⟨_, _, rfl, .inl (ex_l gQ.k hS14), ?_⟩
    refine rep_k (n := T.length + 1) eQ (by rw [List.length_map, List.length_cons, lL]) (by omega) fun q4 hq4 => ?_
    have gR := gQ.new (o := .lst ((List.replicate (T.length + 1) far).map V.int)) hq4
    have xR := ((Gr.refl (M := M0) gQ.k).new (o := .lst ((List.replicate (T.length + 1) far).map V.int)) hq4).b
    have dR : Dt K (upd B14 q4 (.lst ((List.replicate (T.length + 1) far).map V.int))) (.ref q4) (far :: cr far T) := dtLI (SqL.of upd_same)
    generalize upd B14 q4 (HO.lst ((List.replicate (T.length + 1) far).map V.int)) = B15 at *
    generalize upd H27 q4 (HO.lst ((List.replicate (T.length + 1) far).map V.int)) = H28 at *
    walk_at "E"
    refine ⟨B15, d, _, _, _, far, cr far T, T, n + 80, rfl, (jO.gr gR).le (by omega), d26.mono xR, dR, dT12.mono gR.b, cr_len _ _, f0, by omega, fun l hl => by rw [cr_mem hl]; exact f0, fun H29 g29 j29 => ⟨_, rfl, iff_ rfl (s_nil ?_)⟩⟩
    have gS := (gP.trans gR.up).trans g29
    have dS15 := dS.mono gR.b
    have dT15 := dT12.mono gR.b
    clear gQ eQ gR xR dR d26 g26 hS14
    -- through
    refine s_one (s_ret (e_call ee (hr.mono (by decide)) (h := ?_)))
    walk_at "E"
    refine e_callX S.et takes0 hr (h := ?_)
    walk_at "E"
    refine ⟨B15, _, _, r9 :: L, T, rfl, j29.k, dS15, dT15, fun i x hx hn _ => absurd hn (by have := S0 x (List.mem_of_getElem? hx); omega), fun _ z => absurd (by rw [List.length_cons, lL]; omega) z, ?_⟩
    intro r' L' e' _ _ vh B16 H30 g30 d30
    cases e'
    walk_at "E"
    refine ⟨B16, d, _, _, _, r9, L, T, n + 70, rfl, (j29.gr g30).le (by omega), d30, dS15.mono g30.b, dT15.mono g30.b, lL, r90, by omega, L0, fun H31 g31 j31 => ?_⟩
    have gT := (gS.trans g30.up).trans g31
    exact k H31 (Gr.low gT) (Jk.low j0 gT j31 (by omega))
  have st6 : ∀ (vd : V) (B8 H8 : Hp), Gr (Md d) B H B8 H8 → Jk B8 H8 d (n + 197) → Dt K B8 vd (pw far ⟨0 - by_, 0, far - by_⟩ many.toNat) → WSs (cxOf CX0 P w K mg base N_gr "_law_great_right" (defScope s_gr) f cdv A0 outer s H E).nox ((defBody s_gr).drop 6) { nx := fun _ H' => Q .non H', rt := Q } [some (.ref d), some (.int r), some v, some (.int m), some (.int t), some vd, some (.int far), some (.int by_), some (.int many), none, none, none, none, none] H8 := by
    intro vd B8 H8 gE jE dE
    refine s_cons (s_if (t_cmp (op_neD hr.units) (h := e_callX S.re takes0 hr (h := ?_))))
    walk_at "E"
    refine e_sub (h := ?_)
    walk_at "E"
    walk_at "ii"
    walk_at "E"
    refine e_sub (h := ?_)
    walk_at "E"
    walk_at "ii"
    walk_at "E"
    refine ⟨by show 3 ≤ sizeLine; decide, fun p hp => ?_⟩
    have gF := gE.new (o := .tup [.int (0 - by_), .int 0, .int (far - by_)]) hp
    have x8 : Ex B8 (upd B8 p (.tup [.int (0 - by_), .int 0, .int (far - by_)])) := Ex.new (none_of_ex jE.k hp)
    have jF := jE.new (o := .tup [.int (0 - by_), .int 0, .int (far - by_)]) hp
    walk_at "E"
    refine ⟨_, _, far, ⟨0 - by_, 0, far - by_⟩, many, rfl, gF.k, dtE3 (SqT.of upd_same), fun z => absurd z (by omega), fun _ z => absurd V2 z, fun _ z => absurd z (by omega), fun _ _ v9 B9 H9 g9 d9 => ?_⟩
    walk_at "E"
    refine ne_dat (B := B9) (x := pw far ⟨0 - by_, 0, far - by_⟩ many.toNat) (y := pw far ⟨0 - by_, 0, far - by_⟩ many.toNat) d9 (dE.mono (x8.trans g9.b)) g9.k (by decide) ⟨_, rfl, iff_ (by simp) (s_nil ?_)⟩
    have gG := gF.trans g9.up
    exact st7 vd H9 (Gr.low gG) (Jk.low j0 gG (jF.gr g9) (Nat.le_refl _))
  have st5 : ∀ (vd : V) (H8 : Hp), Gr (Md d) B H B H8 → Jk B H8 d (n + 197) → WSs (cxOf CX0 P w K mg base N_gr "_law_great_right" (defScope s_gr) f cdv A0 outer s H E).nox ((defBody s_gr).drop 5) { nx := fun _ H' => Q .non H', rt := Q } [some (.ref d), some (.int r), some v, some (.int m), some (.int t), some vd, some (.int far), some (.int by_), some (.int many), none, none, none, none, none] H8 := by
    intro vd H8 gE jE
    refine s_cons (s_set 5 sc_gr.nd (h := e_if (t_cmp op_lt (h := e_mul (h := ?_)))))
    walk_at "E"
    refine ⟨_, _, rfl, rfl, hbm, ?_⟩
    walk_at "E"
    refine ⟨_, _, rfl, rfl, _, rfl, ifd (fun c => ?_) fun c => ?_⟩
    · refine e_tup (a_cons (h := e_sub (h := ?_)))
      walk_at "E"
      refine e_mul (h := ?_)
      walk_at "E"
      refine ⟨_, _, rfl, rfl, hbm, ?_⟩
      walk_at "ii"
      walk_at "E"
      refine e_sub (h := ?_)
      walk_at "E"
      refine e_mul (h := ?_)
      walk_at "E"
      refine ⟨_, _, rfl, rfl, hbm, ?_⟩
      walk_at "ii"
      walk_at "E"
      refine ⟨by show 3 ≤ sizeLine; decide, fun p hp => ?_⟩
      refine st6 _ _ _ (gE.new hp) (jE.new hp) ?_
      rw [w2, if_pos c]
      exact dtE3 (SqT.of upd_same)
    · refine e_tup ?_
      walk_at "E"
      refine ⟨by show 3 ≤ sizeLine; decide, fun p hp => ?_⟩
      refine st6 _ _ _ (gE.new hp) (jE.new hp) ?_
      rw [w2, if_neg c]
      exact dtE3 (SqT.of upd_same)
  have st4 : ∀ (vd : V) (B8 H8 : Hp), Gr (Md d) B H B8 H8 → Jk B8 H8 d (n + 197) → Dt K B8 vd (pw far ⟨by_, by_, far⟩ many.toNat) → WSs (cxOf CX0 P w K mg base N_gr "_law_great_right" (defScope s_gr) f cdv A0 outer s H E).nox ((defBody s_gr).drop 4) { nx := fun _ H' => Q .non H', rt := Q } [some (.ref d), some (.int r), some v, some (.int m), some (.int t), some vd, some (.int far), some (.int by_), some (.int many), none, none, none, none, none] H8 := by
    intro vd B8 H8 gE jE dE
    refine s_cons (s_if (t_cmp (op_neD hr.units) (h := e_callX S.re takes0 hr (h := ?_))))
    walk_at "E"
    refine ⟨by show 3 ≤ sizeLine; decide, fun p hp => ?_⟩
    have gF := gE.new (o := .tup [.int by_, .int by_, .int far]) hp
    have x8 : Ex B8 (upd B8 p (.tup [.int by_, .int by_, .int far])) := Ex.new (none_of_ex jE.k hp)
    have jF := jE.new (o := .tup [.int by_, .int by_, .int far]) hp
    walk_at "E"
    refine ⟨_, _, far, ⟨by_, by_, far⟩, many, rfl, gF.k, dtE3 (SqT.of upd_same), fun z => absurd z (by omega), fun _ z => absurd V1 z, fun _ z => absurd z (by omega), fun _ _ v9 B9 H9 g9 d9 => ?_⟩
    walk_at "E"
    refine ne_dat (B := B9) (x := pw far ⟨by_, by_, far⟩ many.toNat) (y := pw far ⟨by_, by_, far⟩ many.toNat) d9 (dE.mono (x8.trans g9.b)) g9.k (by decide) ⟨_, rfl, iff_ (by simp) (s_nil ?_)⟩
    have gG := gF.trans g9.up
    exact st5 vd H9 (Gr.low gG) (Jk.low j0 gG (jF.gr g9) (Nat.le_refl _))
  refine s_cons (s_set 5 sc_gr.nd (h := e_if (t_cmp op_lt (h := e_mul (h := ?_)))))
  walk_at "E"
  refine ⟨_, _, rfl, rfl, hbm, ?_⟩
  walk_at "E"
  refine ⟨_, _, rfl, rfl, _, rfl, ifd (fun c => ?_) fun c => ?_⟩
  · refine e_tup (a_cons (h := e_mul (h := ?_)))
    walk_at "E"
    refine ⟨_, _, rfl, rfl, hbm, ?_⟩
    refine a_cons (h := e_mul (h := ?_))
    walk_at "E"
    refine ⟨_, _, rfl, rfl, hbm, ?_⟩
    walk_at "E"
    refine ⟨by show 3 ≤ sizeLine; decide, fun p hp => ?_⟩
    refine st4 _ _ _ (gD.new hp) (j7.new hp) ?_
    rw [w1, if_pos c]
    exact dtE3 (SqT.of upd_same)
  · refine e_tup ?_
    walk_at "E"
    refine ⟨by show 3 ≤ sizeLine; decide, fun p hp => ?_⟩
    refine st4 _ _ _ (gD.new hp) (j7.new hp) ?_
    rw [w1, if_neg c]
    exact dtE3 (SqT.of upd_same)
end
end K35
namespace K35
open PySem L2 Evl Lw
open Te
section
variable {P : Program} {w : World} {K : PySem.W.Frag} {mg : Str → Option Value} {base : Heap} {C CV : Addr}
/-! law -/
abbrev N_law : List Str := ["_law_script", "_law_k", "_law_jug_here", "_law_width", "_law_size", "_law_one", "_law_other", "_law_times_here"]
theorem sc_law : FnScope N_law ["_law_script"] (defScope s_law) := ⟨rfl, rfl, rfl, by decide +kernel, rfl, by decide +kernel, by decide +kernel⟩
def sp_law (K : PySem.W.Frag) : Sp := fun vs H Q _ => ∃ (a : Addr) (ns : List Int), vs = [.ref a] ∧ SqL K H a (ns.map V.int) ∧ ns.length ≤ 63 ∧ ∀ H', Q (.bl true) H'
structure LC (P : Program) (w : World) (K : PySem.W.Frag) (mg : Str → Option Value) (base : Heap) (C CV : Addr) : Prop where
  mr : mg "range" = none
  mmin : mg "min" = none
  mmax : mg "max" = none
  pc : PC P w K mg base C CV
  ej : Cal P w K mg base "_law_jug" 1 ["_law_script", "_law_k"] (sp_jug K)
  e0 : Cal P w K mg base "_law_pour" 1 ["_law_jug_here", "_law_many"] sp_pour
  et : Cal P w K mg base "_law_turns" 2 ["_law_jug_here", "_law_most", "_law_size"] (sp_turns K)
  e1 : Cal P w K mg base "_law_single_right" 5 ["_law_size", "_law_one", "_law_other", "_law_width"] (sp_sr K)
  e2 : Cal P w K mg base "_law_through_right" 5 ["_law_jug_here", "_law_width"] sp_tr
  e3 : Cal P w K mg base "_law_repeated_right" 5 ["_law_size", "_law_effect", "_law_turns_here", "_law_times_here"] (sp_rr K)
  e4 : Cal P w K mg base "_law_errors_right" 6 ["_law_jug_here", "_law_size"] sp_err
  e5 : Cal P w K mg base "_law_great_right" 5 ["_law_jug_here", "_law_size", "_law_effect", "_law_width", "_law_times_here"] (sp_gr K)
theorem ok_law (S : LC P w K mg base C CV) : ∀ f fd, Fun K "law" "law" s_law f fd → FnOk P w K mg base CX0 7 f fd ["_law_script"] (sp_law K) := by
  refine ok_of sc_law (fun vs H Q E h => by obtain ⟨_, _, rfl, _⟩ := h; rfl) (fun f cdv A outer s0 H vs Q E hr h => ?_)
  obtain ⟨a, ns, rfl, hL, hn, q⟩ := h
  refine s_cons (s_for (h := i_rng1 S.mr (h := e_blt (call_max2 rfl) S.mmax (by decide +kernel) (a_cons (h := e_int (a_cons (h := e_blt (call_min2 rfl) S.mmin (by decide +kernel) (a_cons (h := e_int (a_cons (h := e_blt call_len_seq S.pc.ml PySem.boot_len ?_)))))))))))
  walk_at "E"
  refine ⟨_, _, rfl, .inl hL, ?_⟩
  walk_at "E"
  rw [List.length_map]
  refine ⟨_, _, rfl, ?_⟩
  walk_at "E"
  refine ⟨_, _, rfl, ?_⟩
  rw [py_max, py_min]
  obtain ⟨m, hm⟩ : ∃ m, m = max 1 (min 3 ((ns.length : Nat) : Int)) := ⟨_, rfl⟩
  rw [← hm]
  refine ⟨m, rfl, by omega, by omega, ?_⟩
  refine for_it walk_r0 (fun i σ H' => (∃ u1 u2 u3 u4 u5 u6 u7, σ = [some (.ref a), u1, u2, u3, u4, u5, u6, u7]) ∧ Ex H H') ⟨⟨none, none, none, none, none, none, none, rfl⟩, Ex.refl H⟩ (fun _ _ _ _ _ => trivial) ?_ ?_
  rotate_left
  · rintro σ H' ⟨⟨u1, u2, u3, u4, u5, u6, u7, rfl⟩, ex⟩
    exact s_one (s_ret (e_bl (q H')))
  rintro i0 x σ H' B hi ⟨⟨u1, u2, u3, u4, u5, u6, u7, rfl⟩, ex⟩ ⟨rfl, rfl⟩
  refine g_name 1 sc_law.nd (q := ?_)
  refine s_cons (s_set 2 sc_law.nd (h := e_call S.ej (hr.mono (by decide)) (h := ?_)))
  walk_at "E"
  refine ⟨a, ns, i0, rfl, ex_l ex hL, by omega, fun d x y z hd0 hj => ?_⟩
  have j0 : Jk B (upd B d (dk x y z)) d 900000 := ⟨Ex.new hd0, hd0, hj⟩
  generalize upd B d (dk x y z) = H0 at *
  have g0 : Gr (Md d) B H0 B H0 := Gr.refl j0.k
  have e25 : (10 : Int) ^ (25 : Int).toNat = 10000000000000000000000000 := by decide
  have e30 : (10 : Int) ^ (30 : Int).toNat = 1000000000000000000000000000000 := by decide
  -- width
  refine s_cons (s_set 3 sc_law.nd (h := e_ixL (h := e_lst (a_cons (h := e_int (a_cons (h := e_add (h := ?_))))))))
  walk_at "E"
  refine e_call S.e0 (hr.mono (by decide)) (h := ?_)
  walk_at "E"
  refine pour_k (n := 899999) j0 (by decide) (by decide) fun r1 H1 a0 a1 g1 j1 => ?_
  walk_at "ii"
  refine a_cons (h := e_add (h := ?_))
  walk_at "E"
  refine e_call S.e0 (hr.mono (by decide)) (h := ?_)
  walk_at "E"
  refine e_pow (h := ?_)
  walk_at "E"
  refine ⟨_, _, rfl, rfl, ⟨by decide, by decide, by decide⟩, ?_⟩
  rw [e25]
  walk_at "E"
  refine pour_k (n := 899998) j1 (by decide) (big2 (by decide)) fun r2 H2 b0 b1 g2 j2 => ?_
  walk_at "ii"
  walk_at "E"
  refine ⟨by show 3 ≤ sizeLine; decide, fun p1 hp1 => ?_⟩
  have gA := ((g0.trans g1).trans g2).own (o := .lst [.int 1, .int (2 + r1), .int (1 + r2)]) hp1
  have jA := j2.own (o := .lst [.int 1, .int (2 + r1), .int (1 + r2)]) hp1
  have eA : (upd H2 p1 (.lst [.int 1, .int (2 + r1), .int (1 + r2)])) p1 = some (.lst [.int 1, .int (2 + r1), .int (1 + r2)]) := upd_same
  have nA : d ≠ p1 := j2.at_.ne hp1
  generalize upd H2 p1 (HO.lst [.int 1, .int (2 + r1), .int (1 + r2)]) = H2' at *
  refine e_call S.e0 (hr.mono (by decide)) (h := ?_)
  walk_at "E"
  refine pour_k (n := 899997) jA (by decide) (by decide) fun c H3 c0 c1 g3 j3 => ?_
  have eA3 := g3.h _ _ (fun z => nA z.symm) eA
  have gB := gA.trans g3
  obtain ⟨W, hW1, hW2, hW3⟩ : ∃ W : Int, ([V.int 1, .int (2 + r1), .int (1 + r2)])[c.toNat]? = some (.int W) ∧ 1 ≤ W ∧ W ≤ 20000000000000000000000000 := by
    have : c = 0 ∨ c = 1 ∨ c = 2 := by omega
    rcases this with rfl | rfl | rfl
    · exact ⟨1, rfl, by decide, by decide⟩
    · exact ⟨_, rfl, by omega, by omega⟩
    · exact ⟨_, rfl, by omega, by omega⟩
  refine ⟨p1, _, c, _, rfl, rfl, SqL.of eA3, at_of (by omega : c = (c.toNat : Int)) hW1, ?_⟩
  -- size, one, other
  refine s_cons (s_par3 4 5 6 sc_law.nd (h := a_cons (h := e_call S.e0 (hr.mono (by decide)) (h := ?_))))
  walk_at "E"
  refine pour_k (n := 899996) j3 (by decide) (by decide) fun r H4 r0 r7 g4 j4 => ?_
  refine a_cons (h := e_call S.et (hr.mono (by decide)) (h := ?_))
  walk_at "E"
  refine ⟨B, d, 6, 5, 899000, rfl, j4.le (by decide), by decide, by decide, by decide, by decide, ?_⟩
  rintro _ one B1 H5 g5 j5 ⟨ao, rfl, eo⟩ lo bo
  refine a_cons (h := e_call S.et (hr.mono (by decide)) (h := ?_))
  walk_at "E"
  refine ⟨B1, d, 6, 5, 898000, rfl, j5.le (by decide), by decide, by decide, by decide, by decide, ?_⟩
  rintro _ oth B2 H6 g6 j6 ⟨at_', rfl, et'⟩ lt bt
  refine a_nil ⟨_, _, _, rfl, ?_⟩
  have t1 : Tiny one := ⟨lo, bo⟩
  have t2 : Tiny oth := ⟨lt, bt⟩
  have eo2 := g6.b _ _ eo
  have gC := ((gB.trans g4).trans g5).trans g6
  -- single, through
  refine s_cons (s_if (t_wb (b_or (t_not (t_val (e_call S.e1 (hr.mono (by decide)) (h := ?_)))))))
  walk_at "E"
  refine ⟨B2, .non, .non, r, W, one, oth, ao, at_', rfl, j6.k, eo2, et', t1, t2, r0, by omega, hW2, hW3, fun H7 g7 => ⟨_, rfl, iff_ rfl ?_⟩⟩
  refine b_or1 (t_not (t_val (e_call S.e2 (hr.mono (by decide)) (h := ?_))))
  walk_at "E"
  refine ⟨B2, d, W, 890000, rfl, (j6.gr g7).le (by decide), hW2, hW3, fun H8 g8 j8 => ⟨_, rfl, iff_ rfl (s_nil ?_)⟩⟩
  have gD := (gC.trans g7.up).trans g8
  -- times
  refine s_cons (s_set 7 sc_law.nd (h := e_ixL (h := e_lst (a_cons (h := e_call S.e0 (hr.mono (by decide)) (h := ?_)))))) 
  walk_at "E"
  refine pour_k (n := 889999) j8 (by decide) (by decide) fun x1 H9 x10 x11 g9 j9 => ?_
  refine a_cons (h := e_call S.e0 (hr.mono (by decide)) (h := ?_))
  walk_at "E"
  refine e_pow (h := ?_)
  walk_at "E"
  refine ⟨_, _, rfl, rfl, ⟨by decide, by decide, by decide⟩, ?_⟩
  rw [e30]
  walk_at "E"
  refine pour_k (n := 889998) j9 (by decide) (big2 (by decide)) fun x2 H10 x20 x21 g10 j10 => ?_
  refine a_nil ⟨by show 2 ≤ sizeLine; decide, fun p2 hp2 => ?_⟩
  have gE := ((gD.trans g9).trans g10).own (o := .lst [.int x1, .int x2]) hp2
  have jE := j10.own (o := .lst [.int x1, .int x2]) hp2
  have eE : (upd H10 p2 (.lst [.int x1, .int x2])) p2 = some (.lst [.int x1, .int x2]) := upd_same
  have nE : d ≠ p2 := j10.at_.ne hp2
  generalize upd H10 p2 (HO.lst [.int x1, .int x2]) = H11 at *
  refine e_call S.e0 (hr.mono (by decide)) (h := ?_)
  walk_at "E"
  refine pour_k (n := 889997) jE (by decide) (by decide) fun c2 H12 c20 c21 g12 j12 => ?_
  have eE2 := g12.h _ _ (fun z => nE z.symm) eE
  obtain ⟨ti, hti, hti0⟩ : ∃ ti : Int, ([V.int x1, .int x2])[c2.toNat]? = some (.int ti) ∧ 0 ≤ ti := by
    have : c2 = 0 ∨ c2 = 1 := by omega
    rcases this with rfl | rfl
    · exact ⟨_, rfl, x10⟩
    · exact ⟨_, rfl, x20⟩
  refine ⟨p2, _, c2, _, rfl, rfl, SqL.of eE2, at_of (by omega : c2 = (c2.toNat : Int)) hti, ?_⟩
  have gF := gE.trans g12
  have dOne : Dt K B2 (.ref ao) one := dtLI (SqL.of eo2)
  have llo := lo
  -- repeated, errors
  refine s_cons (s_if (t_wb (b_or (t_not (t_val (e_call S.e3 (hr.mono (by decide)) (h := ?_)))))))
  walk_at "E"
  refine e_callX S.pc.on takes0 (hr.mono (by decide)) (h := ?_)
  walk_at "E"
  refine ⟨B2, _, r, one, rfl, j12.k, dOne, by omega, fun _ v1 B3 H13 g13 d13 => ?_, fun z => absurd z (by omega)⟩
  walk_at "E"
  refine ⟨B3, v1, r, ti, one, ao, rfl, g13.k, d13, g13.b _ _ eo2, t1, r0, by omega, hti0, fun H14 g14 => ⟨_, rfl, iff_ rfl ?_⟩⟩
  have g14' := g13.trans g14
  refine b_or1 (t_not (t_val (e_call S.e4 hr (h := ?_))))
  walk_at "E"
  refine ⟨B3, d, r, 880000, rfl, (j12.gr g14').le (by decide), r0, by omega, fun H15 g15 j15 => ⟨_, rfl, iff_ rfl (s_nil ?_)⟩⟩
  have gG := (gF.trans g14'.up).trans g15
  -- great
  refine s_one (s_if (t_not (t_val (e_call S.e5 (hr.mono (by decide)) (h := ?_)))))
  walk_at "E"
  refine e_callX S.pc.on takes0 (hr.mono (by decide)) (h := ?_)
  walk_at "E"
  refine ⟨B3, _, r, one, rfl, j15.k, dOne.mono g13.b, by omega, fun _ v2 B4 H16 g16 d16 => ?_, fun z => absurd z (by omega)⟩
  walk_at "E"
  refine ⟨B4, d, v2, r, W, ti, effC r one, 870000, rfl, (j15.gr g16).le (by decide), d16, effC_V r0 one, by omega, hW2, hW3, hti0, fun H17 g17 j17 => ⟨_, rfl, iff_ rfl (s_nil ⟨⟨_, _, _, _, _, _, _, rfl⟩, ?_⟩)⟩⟩
  have gH := (gG.trans g16.up).trans g17
  exact ex.trans (gH.b.trans gH.k)
end
end K35
namespace K35
open PySem L2 Evl Lw
open Te
section
variable {P : Program} {w : World} {K : PySem.W.Frag} {mg : Str → Option Value} {base : Heap} {C CV : Addr}
structure Facts (K : PySem.W.Frag) (mg : Str → Option Value) (C CV : Addr) : Prop where
  cn : Fn K mg "check_number" s_cn
  mt : Fn K mg "many_times" s_mt
  ct : Fn K mg "_clipped_to" s_ct
  on : Fn K mg "effect_on" s_on
  eo : Fn K mg "_effect_of" s_eo
  st : Fn K mg "_shift_told" s_st
  je : Fn K mg "joined_effect" s_je
  ce : Fn K mg "_check_effect" s_ce
  jo : Fn K mg "_joined" s_jo
  lt : Fn K mg "led_to" s_lt
  re : Fn K mg "repeated_effect" s_re
  et : Fn K mg "effect_through" s_et
  jug : Fn K mg "_law_jug" s_jug
  pour : Fn K mg "_law_pour" s_pour
  turns : Fn K mg "_law_turns" s_turns
  led : Fn K mg "_law_led" s_led
  ise : Fn K mg "_law_is_effect" s_ise
  tim : Fn K mg "_law_times" s_tim
  sr : Fn K mg "_law_single_right" s_sr
  rr : Fn K mg "_law_repeated_right" s_rr
  gr : Fn K mg "_law_great_right" s_gr
  er : Fn K mg "_law_ends_right" s_er
  tr : Fn K mg "_law_through_right" s_tr
  any : Fn K mg "_law_any" s_any
  ref : Fn K mg "_law_refused" s_ref
  err : Fn K mg "_law_errors_right" s_err
  mmax : mg "max" = none
  mmin : mg "min" = none
  mzip : mg "zip" = none
  mlen : mg "len" = none
  mint : mg "int" = none
  mrange : mg "range" = none
  msum : mg "sum" = none
  menum : mg "enumerate" = none
  misi : mg "isinstance" = none
  mtup : mg "tuple" = none
  E : ErrM K mg "InvalidNumber" s_wi C
  EV : ErrM K mg "InvalidValue" s_wi CV
  ne : PySem.W.exmOne K (.ref CV) (.ref C) = some false
theorem all_ok (W : Facts K mg C CV) : ∀ f fd, Fun K "law" "law" s_law f fd → FnOk P w K mg base CX0 7 f fd ["_law_script"] (sp_law K) := by
  have T : ExC P w K mg base "InvalidNumber" C := W.E.ex (fun f fd F => ok_wi F) fun _ _ _ _ _ _ us hl => match us, hl with | [_, _], _ => rfl
  have TV : ExC P w K mg base "InvalidValue" CV := W.EV.ex (fun f fd F => ok_wi F) fun _ _ _ _ _ _ us hl => match us, hl with | [_, _], _ => rfl
  have cn : CalX P w K mg base "check_number" 3 ["number"] (sp_cn C) := calX_fn W.cn (ok_cn T) fun _ _ _ _ _ _ us hl => match us, hl with | [_], _ => rfl
  have ct : Cal P w K mg base "_clipped_to" 1 ["room", "scroll"] sp_ct := cal_fn W.ct (ok_ct W.mmax W.mmin) fun _ _ _ _ _ _ us hl => match us, hl with | [_, _], _ => rfl
  have st : Cal P w K mg base "_shift_told" 1 ["shift", "low", "high"] sp_st := cal_fn W.st ok_st fun _ _ _ _ _ _ us hl => match us, hl with | [_, _, _], _ => rfl
  have lt : Cal P w K mg base "led_to" 1 ["effect", "scroll"] (sp_lt K) := cal_fn W.lt (ok_lt W.mmax W.mmin) fun _ _ _ _ _ _ us hl => match us, hl with | [_, _], _ => rfl
  have joF := ok_jo (P := P) (w := w) (base := base) lt st
  have jo : Cal P w K mg base "_joined" 2 ["one", "other"] (sp_jo K) := cal_fn W.jo joF fun _ _ _ _ _ _ us hl => match us, hl with | [_, _], _ => rfl
  have eo : Cal P w K mg base "_effect_of" 2 ["later", "size", "turns"] (sp_eo K) := cal_fn W.eo (ok_eo W.mzip W.mmin W.msum ct st) fun _ _ _ _ _ _ us hl => match us, hl with | [_, _, _], _ => rfl
  have mt : Cal P w K mg base "many_times" 3 ["one", "times", "none", "joined"] (sp_mt P w K mg base) := cal_fn W.mt ok_mt fun _ _ _ _ _ _ us hl => match us, hl with | [_, _, _, _], _ => rfl
  have onF := ok_on (P := P) (w := w) (base := base) cn eo
  have on : CalX P w K mg base "effect_on" 4 ["size", "turns"] (sp_on K C) := calX_fn W.on onF fun _ _ _ _ _ _ us hl => match us, hl with | [_, _], _ => rfl
  have onK : CalKX P w K mg base "effect_on" 4 ["size", "turns"] ["turns", "size"] perm2 (sp_on K C) := calKX_fn perm2 W.on onF vals_perm2 fun _ _ _ _ _ _ ws hl => match ws, hl with | [_, _], _ => rfl
  have ce : CalX P w K mg base "_check_effect" 3 ["size", "effect"] (sp_ce K CV) := calX_fn W.ce (ok_ce TV) fun _ _ _ _ _ _ us hl => match us, hl with | [_, _], _ => rfl
  have jeF := ok_je (P := P) (w := w) (base := base) cn ce jo
  have je : CalX P w K mg base "joined_effect" 4 ["size", "one", "other"] (sp_je K C CV) := calX_fn W.je jeF fun _ _ _ _ _ _ us hl => match us, hl with | [_, _, _], _ => rfl
  have jeK : CalKX P w K mg base "joined_effect" 4 ["size", "one", "other"] ["other", "one", "size"] perm3 (sp_je K C CV) := calKX_fn perm3 W.je jeF vals_perm3 fun _ _ _ _ _ _ ws hl => match ws, hl with | [_, _, _], _ => rfl
  obtain ⟨fj, fdj, Fj, hj⟩ := id W.jo
  have held : HeldD P w K mg base fj 2 ["one", "other"] (sp_jo K) := ⟨fdj, joF fj fdj Fj, Fj.kp, Fj.binds fun _ _ _ _ _ _ us hl => match us, hl with | [_, _], _ => rfl⟩
  have reF := ok_re (P := P) (w := w) (base := base) hj held cn ce mt
  have re : CalX P w K mg base "repeated_effect" 4 ["size", "effect", "times"] (sp_re K C CV) := calX_fn W.re reF fun _ _ _ _ _ _ us hl => match us, hl with | [_, _, _], _ => rfl
  have reK : CalKX P w K mg base "repeated_effect" 4 ["size", "effect", "times"] ["times", "effect", "size"] perm3 (sp_re K C CV) := calKX_fn perm3 W.re reF vals_perm3 fun _ _ _ _ _ _ ws hl => match ws, hl with | [_, _, _], _ => rfl
  have etF := ok_et (P := P) (w := w) (base := base) T W.mlen cn eo
  have et : CalX P w K mg base "effect_through" 4 ["sizes", "turns"] (sp_et K C) := calX_fn W.et etF fun _ _ _ _ _ _ us hl => match us, hl with | [_, _], _ => rfl
  have etK : CalKX P w K mg base "effect_through" 4 ["sizes", "turns"] ["turns", "sizes"] perm2 (sp_et K C) := calKX_fn perm2 W.et etF vals_perm2 fun _ _ _ _ _ _ ws hl => match ws, hl with | [_, _], _ => rfl
  have pour : Cal P w K mg base "_law_pour" 1 ["_law_jug_here", "_law_many"] sp_pour := cal_fn W.pour (ok_pour W.mint) fun _ _ _ _ _ _ us hl => match us, hl with | [_, _], _ => rfl
  have turns : Cal P w K mg base "_law_turns" 2 ["_law_jug_here", "_law_most", "_law_size"] (sp_turns K) := cal_fn W.turns (ok_turns W.mrange pour) fun _ _ _ _ _ _ us hl => match us, hl with | [_, _, _], _ => rfl
  have led : Cal P w K mg base "_law_led" 1 ["_law_sizes", "_law_turns_here", "_law_scroll"] (sp_led K) := cal_fn W.led (ok_led W.menum W.mmax W.mmin) fun _ _ _ _ _ _ us hl => match us, hl with | [_, _, _], _ => rfl
  have ise : Cal P w K mg base "_law_is_effect" 2 ["_law_told", "_law_sizes", "_law_turns_here"] (sp_ise K) := cal_fn W.ise (ok_ise W.mrange W.mlen W.mmax W.mmin W.msum W.misi W.mtup led) fun _ _ _ _ _ _ us hl => match us, hl with | [_, _, _], _ => rfl
  have tim : Cal P w K mg base "_law_times" 1 ["_law_effect", "_law_width"] (sp_tim K) := cal_fn W.tim (ok_tim W.mtup) fun _ _ _ _ _ _ us hl => match us, hl with | [_, _], _ => rfl
  have pc : PC P w K mg base C CV := ⟨W.mlen, on, onK, je, jeK, re, reK, et, etK, ise, tim⟩
  have ends : Cal P w K mg base "_law_ends_right" 2 ["_law_jug_here", "_law_told", "_law_sizes", "_law_turns_here"] (sp_er K) := cal_fn W.er (ok_er W.mrange W.mmax W.mmin W.msum pour led) fun _ _ _ _ _ _ us hl => match us, hl with | [_, _, _, _], _ => rfl
  have any : Cal P w K mg base "_law_any" 2 ["_law_jug_here", "_law_size"] (sp_any K) := cal_fn W.any (ok_any pour) fun _ _ _ _ _ _ us hl => match us, hl with | [_, _], _ => rfl
  have ref : Cal P w K mg base "_law_refused" 5 ["_law_word", "_law_size", "_law_one", "_law_other", "_law_times_here"] (sp_ref K) := cal_fn W.ref (ok_ref pc T TV W.ne) fun _ _ _ _ _ _ us hl => match us, hl with | [_, _, _, _, _], _ => rfl
  exact ok_law (C := C) (CV := CV)
    { mr := W.mrange, mmin := W.mmin, mmax := W.mmax, pc := pc
      ej := cal_fn W.jug (ok_jug W.mlen W.mmax) fun _ _ _ _ _ _ us hl => match us, hl with | [_, _], _ => rfl
      e0 := pour
      et := turns
      e1 := cal_fn W.sr (ok_sr pc) fun _ _ _ _ _ _ us hl => match us, hl with | [_, _, _, _], _ => rfl
      e2 := cal_fn W.tr (ok_tr pc pour turns) fun _ _ _ _ _ _ us hl => match us, hl with | [_, _], _ => rfl
      e3 := cal_fn W.rr (ok_rr pc W.mrange) fun _ _ _ _ _ _ us hl => match us, hl with | [_, _, _, _], _ => rfl
      e4 := cal_fn W.err (ok_err W.mrange pour any ref) fun _ _ _ _ _ _ us hl => match us, hl with | [_, _], _ => rfl
      e5 := cal_fn W.gr (ok_gr pc W.mrange pour ends) fun _ _ _ _ _ _ us hl => match us, hl with | [_, _, _, _, _], _ => rfl }
end
theorem walk {l : PySem.W.OpenLaw} {q : Program} {loose : List Str} {XP : (Str → Option Value) → Heap → Prop} {YP : World → Heap → Prop} {d : DefRec} {K : Params → PySem.W.Frag} (hn : l.most = some 63) (hdf : d.params.defaults = [])
    (hY : ∀ (w : World) (h : Heap), YP w h → (K w.params).In h)
    (F : ∀ (w : World) (mg : Str → Option Value) (fa : Addr) (h : Heap), (K w.params).In h → h.Ns mainGlobals mg → mg d.name = some (.ref fa) → ∃ fd, Fun (K w.params) "law" "law" s_law fa fd ∧ ∃ C CV, Facts (K w.params) mg C CV) :
    PySem.W.WalkO q loose XP YP l.row.toRowW d [] (fun f vs => PySem.call f vs) :=
  L2.walk_of (n := 63) (k := 7) (x := "_law_script") (CX := fun _ => CX0) (sp := fun w => sp_law (K w.params)) hn (by decide) hdf ⟨rfl, by decide, by decide⟩ hY
    (fun w mg fa h KX G hmg => by
      obtain ⟨fd, Fl, C, CV, W⟩ := F w mg fa h KX G hmg
      refine ⟨fd, fun s v => ?_, fun base _ _ => all_ok W _ _ Fl⟩
      obtain ⟨oc, od, kV, doc, pm, an, cdv, ct, osl, rfl, lk, hcd⟩ := Fl.ex
      exact .of_eq rfl)
    (fun _ _ a ns hl _ hS => ⟨a, ns, rfl, hS, hl, fun _ => rfl⟩) fun _ _ _ _ _ z => z
end K35
namespace K35
open PySem L2 Evl Lw
theorem all_mk {K : PySem.W.Frag} {mg : Str → Option Value} {h : Heap} {fa CE CEV : Addr} (X : K.In h) (G : h.Ns mainGlobals mg) (hfa : mg "law" = some (.ref fa)) (xlaw : FnK K "law" s_law)
    (x_cn : FnK K "check_number" s_cn)
    (x_mt : FnK K "many_times" s_mt)
    (x_ct : FnK K "_clipped_to" s_ct)
    (x_on : FnK K "effect_on" s_on)
    (x_eo : FnK K "_effect_of" s_eo)
    (x_st : FnK K "_shift_told" s_st)
    (x_je : FnK K "joined_effect" s_je)
    (x_ce : FnK K "_check_effect" s_ce)
    (x_jo : FnK K "_joined" s_jo)
    (x_lt : FnK K "led_to" s_lt)
    (x_re : FnK K "repeated_effect" s_re)
    (x_et : FnK K "effect_through" s_et)
    (x_jug : FnK K "_law_jug" s_jug)
    (x_pour : FnK K "_law_pour" s_pour)
    (x_turns : FnK K "_law_turns" s_turns)
    (x_led : FnK K "_law_led" s_led)
    (x_ise : FnK K "_law_is_effect" s_ise)
    (x_tim : FnK K "_law_times" s_tim)
    (x_sr : FnK K "_law_single_right" s_sr)
    (x_rr : FnK K "_law_repeated_right" s_rr)
    (x_gr : FnK K "_law_great_right" s_gr)
    (x_er : FnK K "_law_ends_right" s_er)
    (x_tr : FnK K "_law_through_right" s_tr)
    (x_any : FnK K "_law_any" s_any)
    (x_ref : FnK K "_law_refused" s_ref)
    (x_err : FnK K "_law_errors_right" s_err)
    (n_mmax : PySem.W.nsIn K mainGlobals "max" = some none)
    (n_mmin : PySem.W.nsIn K mainGlobals "min" = some none)
    (n_mzip : PySem.W.nsIn K mainGlobals "zip" = some none)
    (n_mlen : PySem.W.nsIn K mainGlobals "len" = some none)
    (n_mint : PySem.W.nsIn K mainGlobals "int" = some none)
    (n_mrange : PySem.W.nsIn K mainGlobals "range" = some none)
    (n_msum : PySem.W.nsIn K mainGlobals "sum" = some none)
    (n_menum : PySem.W.nsIn K mainGlobals "enumerate" = some none)
    (n_misi : PySem.W.nsIn K mainGlobals "isinstance" = some none)
    (n_mtup : PySem.W.nsIn K mainGlobals "tuple" = some none)
    (e_E : ErrK K "InvalidNumber" s_wi CE)
    (e_EV : ErrK K "InvalidValue" s_wi CEV)
    (x_ne : PySem.W.exmOne K (.ref CEV) (.ref CE) = some false)
    : ∃ fd, Fun K "law" "law" s_law fa fd ∧ ∃ C CV, Facts K mg C CV := by
  obtain ⟨fl, fdl, Fl, hl⟩ := xlaw.fn X G
  have e := hfa.symm.trans hl
  cases e
  exact ⟨fdl, Fl, CE, CEV,
    { cn := x_cn.fn X G, mt := x_mt.fn X G, ct := x_ct.fn X G, on := x_on.fn X G, eo := x_eo.fn X G, st := x_st.fn X G, je := x_je.fn X G, ce := x_ce.fn X G, jo := x_jo.fn X G, lt := x_lt.fn X G, re := x_re.fn X G, et := x_et.fn X G, jug := x_jug.fn X G, pour := x_pour.fn X G, turns := x_turns.fn X G, led := x_led.fn X G, ise := x_ise.fn X G, tim := x_tim.fn X G, sr := x_sr.fn X G, rr := x_rr.fn X G, gr := x_gr.fn X G, er := x_er.fn X G, tr := x_tr.fn X G, any := x_any.fn X G, ref := x_ref.fn X G, err := x_err.fn X G, mmax := PySem.W.mg_none_of X G n_mmax, mmin := PySem.W.mg_none_of X G n_mmin, mzip := PySem.W.mg_none_of X G n_mzip, mlen := PySem.W.mg_none_of X G n_mlen, mint := PySem.W.mg_none_of X G n_mint, mrange := PySem.W.mg_none_of X G n_mrange, msum := PySem.W.mg_none_of X G n_msum, menum := PySem.W.mg_none_of X G n_menum, misi := PySem.W.mg_none_of X G n_misi, mtup := PySem.W.mg_none_of X G n_mtup, E := e_E.at_ X G, EV := e_EV.at_ X G, ne := x_ne }⟩
end K35
open PySem PySem.W PyProof.Rows in
set_option maxRecDepth 100000 in
set_option maxHeartbeats 0 in
theorem PySem.Challenge.cw_listwindow_k35_effects_on_all_scrolls_holds : PySem.Challenge.rw_listwindow_k35_effects_on_all_scrolls.Holds := by
  w_on; o_law; k_head; (case hw => w_witness2)
  k_fill
  refine K35.walk (l := PySem.Challenge.rw_listwindow_k35_effects_on_all_scrolls) rfl rfl (fun w h Y => PySem.W.kIn_of Y) ?F
  case F =>
    intro w mg fa h KX G hmg
    refine' K35.all_mk KX G hmg ?xlaw ?x_cn ?x_mt ?x_ct ?x_on ?x_eo ?x_st ?x_je ?x_ce ?x_jo ?x_lt ?x_re ?x_et ?x_jug ?x_pour ?x_turns ?x_led ?x_ise ?x_tim ?x_sr ?x_rr ?x_gr ?x_er ?x_tr ?x_any ?x_ref ?x_err ?n_mmax ?n_mmin ?n_mzip ?n_mlen ?n_mint ?n_mrange ?n_msum ?n_menum ?n_misi ?n_mtup ?e_E ?e_EV ?x_ne
    (case xlaw => (refine' Lw.fnK_mk ?a ?l ?c ?k; (case a => k_is); (case l => k_is); (case c => k_is); (case k => k_is)))
    (case x_cn => (refine' Lw.fnK_mk ?a ?l ?c ?k; (case a => k_is); (case l => k_is); (case c => k_is); (case k => k_is)))
    (case x_mt => (refine' Lw.fnK_mk ?a ?l ?c ?k; (case a => k_is); (case l => k_is); (case c => k_is); (case k => k_is)))
    (case x_ct => (refine' Lw.fnK_mk ?a ?l ?c ?k; (case a => k_is); (case l => k_is); (case c => k_is); (case k => k_is)))
    (case x_on => (refine' Lw.fnK_mk ?a ?l ?c ?k; (case a => k_is); (case l => k_is); (case c => k_is); (case k => k_is)))
    (case x_eo => (refine' Lw.fnK_mk ?a ?l ?c ?k; (case a => k_is); (case l => k_is); (case c => k_is); (case k => k_is)))
    (case x_st => (refine' Lw.fnK_mk ?a ?l ?c ?k; (case a => k_is); (case l => k_is); (case c => k_is); (case k => k_is)))
    (case x_je => (refine' Lw.fnK_mk ?a ?l ?c ?k; (case a => k_is); (case l => k_is); (case c => k_is); (case k => k_is)))
    (case x_ce => (refine' Lw.fnK_mk ?a ?l ?c ?k; (case a => k_is); (case l => k_is); (case c => k_is); (case k => k_is)))
    (case x_jo => (refine' Lw.fnK_mk ?a ?l ?c ?k; (case a => k_is); (case l => k_is); (case c => k_is); (case k => k_is)))
    (case x_lt => (refine' Lw.fnK_mk ?a ?l ?c ?k; (case a => k_is); (case l => k_is); (case c => k_is); (case k => k_is)))
    (case x_re => (refine' Lw.fnK_mk ?a ?l ?c ?k; (case a => k_is); (case l => k_is); (case c => k_is); (case k => k_is)))
    (case x_et => (refine' Lw.fnK_mk ?a ?l ?c ?k; (case a => k_is); (case l => k_is); (case c => k_is); (case k => k_is)))
    (case x_jug => (refine' Lw.fnK_mk ?a ?l ?c ?k; (case a => k_is); (case l => k_is); (case c => k_is); (case k => k_is)))
    (case x_pour => (refine' Lw.fnK_mk ?a ?l ?c ?k; (case a => k_is); (case l => k_is); (case c => k_is); (case k => k_is)))
    (case x_turns => (refine' Lw.fnK_mk ?a ?l ?c ?k; (case a => k_is); (case l => k_is); (case c => k_is); (case k => k_is)))
    (case x_led => (refine' Lw.fnK_mk ?a ?l ?c ?k; (case a => k_is); (case l => k_is); (case c => k_is); (case k => k_is)))
    (case x_ise => (refine' Lw.fnK_mk ?a ?l ?c ?k; (case a => k_is); (case l => k_is); (case c => k_is); (case k => k_is)))
    (case x_tim => (refine' Lw.fnK_mk ?a ?l ?c ?k; (case a => k_is); (case l => k_is); (case c => k_is); (case k => k_is)))
    (case x_sr => (refine' Lw.fnK_mk ?a ?l ?c ?k; (case a => k_is); (case l => k_is); (case c => k_is); (case k => k_is)))
    (case x_rr => (refine' Lw.fnK_mk ?a ?l ?c ?k; (case a => k_is); (case l => k_is); (case c => k_is); (case k => k_is)))
    (case x_gr => (refine' Lw.fnK_mk ?a ?l ?c ?k; (case a => k_is); (case l => k_is); (case c => k_is); (case k => k_is)))
    (case x_er => (refine' Lw.fnK_mk ?a ?l ?c ?k; (case a => k_is); (case l => k_is); (case c => k_is); (case k => k_is)))
    (case x_tr => (refine' Lw.fnK_mk ?a ?l ?c ?k; (case a => k_is); (case l => k_is); (case c => k_is); (case k => k_is)))
    (case x_any => (refine' Lw.fnK_mk ?a ?l ?c ?k; (case a => k_is); (case l => k_is); (case c => k_is); (case k => k_is)))
    (case x_ref => (refine' Lw.fnK_mk ?a ?l ?c ?k; (case a => k_is); (case l => k_is); (case c => k_is); (case k => k_is)))
    (case x_err => (refine' Lw.fnK_mk ?a ?l ?c ?k; (case a => k_is); (case l => k_is); (case c => k_is); (case k => k_is)))
    (case n_mmax => k_is)
    (case n_mmin => k_is)
    (case n_mzip => k_is)
    (case n_mlen => k_is)
    (case n_mint => k_is)
    (case n_mrange => k_is)
    (case n_msum => k_is)
    (case n_menum => k_is)
    (case n_misi => k_is)
    (case n_mtup => k_is)
    (case e_E => (refine' Lw.errK_mk ?gC ?cl ?rv ?sa ?ex ?ty ?kC ?ga ?gg ?hd ?nv ?ic ?ss ?ii ?it ?l ?c ?k; (case gC => k_is); (case cl => k_is); (case rv => first | rfl | decide +kernel); (case sa => k_is); (case ex => k_is); (case ty => k_is); (case kC => k_is); (case ga => k_is); (case gg => k_is); (case hd => k_is); (case nv => k_is); (case ic => k_is); (case ss => k_is); (case ii => k_is); (case it => k_is); (case l => k_is); (case c => k_is); (case k => k_is)))
    (case e_EV => (refine' Lw.errK_mk ?gC ?cl ?rv ?sa ?ex ?ty ?kC ?ga ?gg ?hd ?nv ?ic ?ss ?ii ?it ?l ?c ?k; (case gC => k_is); (case cl => k_is); (case rv => first | rfl | decide +kernel); (case sa => k_is); (case ex => k_is); (case ty => k_is); (case kC => k_is); (case ga => k_is); (case gg => k_is); (case hd => k_is); (case nv => k_is); (case ic => k_is); (case ss => k_is); (case ii => k_is); (case it => k_is); (case l => k_is); (case c => k_is); (case k => k_is)))
    (case x_ne => (refine' Lw.exm_by ?h1 ?h2 ?h3 ?h4; (case h1 => k_is); (case h2 => k_is); (case h3 => k_is); (case h4 => k_is)))
