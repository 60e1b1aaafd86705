import PyProof.Rows.All
import Wide.All
import OpenK.AllK
import Wide.FinOn
import HandS.ForMost
import HandS.Evl
import HandS.Walk
import HandS.Defaults
import HandS.Property
import HandS.Style
import HandS.Flow
import HandS.IsInst
import HandS.Conv
import HandS.Wide
import HandS.OwnEq
import HandS.EndBits
import KE.KFmtOwn
import HandS.SortKw
import HandS.DictComp
import HandS.More
import HandS.TupAny
import HandS.Zip
import HandS.Exc
import HandS.ExcOwn
import HandS.ExcInit
import HandS.ExcField
import HandS.WordsExc
import HandS.SortInts
import PyProof.Rows.RuleB_pow
import HandS.CallLocal
import HandS.TryMany
import HandS.WideMore
import HandS.Deep
import HandS.DeepEq
import HandS.Dict
import PyProof.ReprRoads
import HandS.RaiseMore
import HandS.Ends
import PyProof.ReprLen
import PyProof.P3Eq
import HandS.NoneIn
import HandS.WideBits
import HandS.TupLe
import HandS.Steps
import PySem.Challenge.RW_listwindow_k09_forms_of_clicks_done
set_option Elab.async false
set_option linter.all false
set_option maxRecDepth 100000
set_option maxHeartbeats 4000000
/-! Readings that choose their rule when the values are known; what is known of the heap, and what grows. -/
namespace Lw
open PySem PySem.Spec L2 Evl

/-! ### judgements with the rule left open -/
def WE (X : Cx) (e : Expr) : TE := fun σ H Q => ∃ t, PE X e t ∧ t σ H Q
def WT (X : Cx) (e : Expr) : TT := fun σ H Q => ∃ t, PT X e t ∧ t σ H Q
def WB (X : Cx) (e : Expr) : TT := fun σ H Q => ∃ t, PW X e t ∧ t σ H Q
def WA (X : Cx) (es : List Expr) : TA := fun σ H Q => ∃ t, PA X es t ∧ t σ H Q
def WK (X : Cx) (ks : List Keyword) : TA := fun σ H Q => ∃ t, PK X ks t ∧ t σ H Q
def WS (X : Cx) (s : Stmt) : TS := fun D σ H => ∃ t, PS X s t ∧ t D σ H
def WSs (X : Cx) (s : List Stmt) : TS := fun D σ H => ∃ t, PSs X s t ∧ t D σ H
def WG (X : Cx) (tg : Expr) : TG := fun v σ H Q => ∃ t, PG X tg t ∧ t v σ H Q
def WGs (X : Cx) (tgs : List Expr) : TGs := fun v σ H Q => ∃ t, PGs X tgs t ∧ t v σ H Q
def WI (X : Cx) (tg it : Expr) : TI := fun σ H R => ∃ t, PI X tg it t ∧ t σ H R
def WO (X : Cx) (e : Option Expr) : TO := fun σ H Q => ∃ t, PO X e t ∧ t σ H Q
def WTs (X : Cx) (es : List Expr) : TT := fun σ H Q => ∃ t, PTs X es t ∧ t σ H Q
section
variable {X : Cx} {e tg : Expr} {es : List Expr} {s : Stmt} {ss : List Stmt} {ks : List Keyword} {o : Option Expr}
theorem WE.pe : PE X e (WE X e) := ⟨fun pins s σ H Q I h => by obtain ⟨t, h1, h2⟩ := h; exact h1.run pins s σ H Q I h2⟩
theorem WT.pt : PT X e (WT X e) := ⟨fun pins s σ H Q I h => by obtain ⟨t, h1, h2⟩ := h; exact h1.run pins s σ H Q I h2⟩
theorem WB.pw : PW X e (WB X e) := ⟨fun wh pins s σ H Q I h => by obtain ⟨t, h1, h2⟩ := h; exact h1.run wh pins s σ H Q I h2⟩
theorem WA.pa : PA X es (WA X es) := ⟨fun pos pins s σ H Q I h => by obtain ⟨t, h1, h2⟩ := h; exact h1.run pos pins s σ H Q I h2⟩
theorem WK.pk : PK X ks (WK X ks) := ⟨fun pos pins s σ H Q I h => by obtain ⟨t, h1, h2⟩ := h; exact h1.run pos pins s σ H Q I h2⟩
theorem WS.ps : PS X s (WS X s) := ⟨fun pins s σ H D I h => by obtain ⟨t, h1, h2⟩ := h; exact h1.run pins s σ H D I h2⟩
theorem WSs.pss : PSs X ss (WSs X ss) := ⟨fun pins s σ H D I h => by obtain ⟨t, h1, h2⟩ := h; exact h1.run pins s σ H D I h2⟩
theorem WG.pg : PG X tg (WG X tg) := ⟨fun pins s σ H v u Q I r h => by obtain ⟨t, h1, h2⟩ := h; exact h1.run pins s σ H v u Q I r h2⟩
theorem WGs.pgs : PGs X es (WGs X es) := ⟨fun pins s σ H v u Q I r h => by obtain ⟨t, h1, h2⟩ := h; exact h1.run pins s σ H v u Q I r h2⟩
theorem WI.pi : PI X tg e (WI X tg e) := ⟨fun pins s σ H R I h => by obtain ⟨t, h1, h2⟩ := h; exact h1.run pins s σ H R I h2⟩
theorem WO.po : PO X o (WO X o) := ⟨fun pins s σ H Q I h => by obtain ⟨t, h1, h2⟩ := h; exact h1.run pins s σ H Q I h2⟩
theorem WTs.pts : PTs X es (WTs X es) := ⟨fun pins s σ H Q I h => by obtain ⟨t, h1, h2⟩ := h; exact h1.run pins s σ H Q I h2⟩
end

/-! ### expressions -/
section
variable {X : Cx} {σ : L2.St} {H : Hp} {Q : VK} {a b c e : Expr} {pos p2 : Pos} {x : Str} {v : V} {r r2 : R2}
theorem e_name (i : Nat) (hN : X.N[i]? = some x := by rfl) (hs : σ[i]? = some (some v) := by rfl) (hv : Vis X.env.scope x := by first | exact Or.inl rfl | exact Or.inr (Or.inl rfl) | exact Or.inr (Or.inr rfl)) (hd : (x == ("__debug__" : Str)) = false := by decide)
    (hcd : (x == ("__classdict__" : Str)) = false := by decide) (q : Q v H) : WE X (.Name x pos) σ H Q := ⟨_, pe_var hN hv hd hcd, v, hs, q⟩
theorem e_glob {u : Value} (hm : X.mg x = some u) (rv : RelV v u) (hg : Gl X x := by rfl) (hd : (x == ("__debug__" : Str)) = false := by decide) (q : Q v H) : WE X (.Name x pos) σ H Q := ⟨_, pe_glob hg hm rv hd, q⟩
theorem e_bltn {u : Value} (hm : X.mg x = none) (hv : bootBuiltins x = some u) (rv : RelV v u) (hg : Gl X x := by rfl) (hn : x ≠ "__name__" := by decide) (hd : (x == ("__debug__" : Str)) = false := by decide) (q : Q v H) : WE X (.Name x pos) σ H Q := ⟨_, pe_bltn hg hm hv rv hn hd, q⟩
theorem e_int {i j} (q : Q (.int i) H) : WE X (.Constant (.int i) j pos) σ H Q := ⟨_, pe_int, q⟩
theorem e_bl {i j} (q : Q (.bl i) H) : WE X (.Constant (.bool i) j pos) σ H Q := ⟨_, pe_bl, q⟩
theorem e_non {j} (q : Q .non H) : WE X (.Constant .none j pos) σ H Q := ⟨_, pe_non, q⟩
theorem e_str {i j} (q : Q (.str i) H) : WE X (.Constant (.str i) j pos) σ H Q := ⟨_, pe_str, q⟩
theorem e_bin {op : Operator} (ho : OpR X (binaryOp op) r) (h : WE X a σ H fun x H1 => WE X b σ H1 fun y H2 => r x y H2 Q) : WE X (.BinOp a op b pos) σ H Q := ⟨_, pe_op ho WE.pe WE.pe, h⟩
theorem e_cmp {op : CmpOp} (ho : OpR X (compareOp op) r) (hm : behindInMarks op b = false := by first | exact nomark _ | rfl) (h : WE X a σ H fun x H1 => WE X b σ H1 fun y H2 => r x y H2 Q) : WE X (.Compare a [op] [b] pos) σ H Q := ⟨_, pe_cmpR ho WE.pe WE.pe hm, h⟩
theorem e_neg (h : WE X a σ H fun x H1 => ∃ i, x = .int i ∧ Q (.int (-i)) H1) : WE X (.UnaryOp .USub a pos) σ H Q := ⟨_, pe_un un_neg WE.pe, h⟩
theorem e_add (h : WE X a σ H fun x H1 => WE X b σ H1 fun y H2 => ∃ i j, x = .int i ∧ y = .int j ∧ Q (.int (i + j)) H2) : WE X (.BinOp a .Add b pos) σ H Q := e_bin op_add h
theorem e_sub (h : WE X a σ H fun x H1 => WE X b σ H1 fun y H2 => ∃ i j, x = .int i ∧ y = .int j ∧ Q (.int (i - j)) H2) : WE X (.BinOp a .Sub b pos) σ H Q := e_bin op_sub h
theorem e_mul (h : WE X a σ H fun x H1 => WE X b σ H1 fun y H2 => ∃ i j, x = .int i ∧ y = .int j ∧ CMulW i j ∧ Q (.int (i * j)) H2) : WE X (.BinOp a .Mult b pos) σ H Q := e_bin op_mulW h
theorem e_mod (h : WE X a σ H fun x H1 => WE X b σ H1 fun y H2 => ∃ i j, x = .int i ∧ y = .int j ∧ 0 < j ∧ Q (.int (i % j)) H2) : WE X (.BinOp a .Mod b pos) σ H Q := e_bin op_mod h
theorem e_fdiv (h : WE X a σ H fun x H1 => WE X b σ H1 fun y H2 => ∃ i j, x = .int i ∧ y = .int j ∧ CDivW i j ∧ Q (.int (i / j)) H2) : WE X (.BinOp a .FloorDiv b pos) σ H Q := e_bin op_fdivW h
theorem e_pow (h : WE X a σ H fun x H1 => WE X b σ H1 fun y H2 => ∃ i j, x = .int i ∧ y = .int j ∧ CPow i j ∧ Q (.int (i ^ j.toNat)) H2) : WE X (.BinOp a .Pow b pos) σ H Q := e_bin op_pow h
theorem e_if {t : Expr} (h : WT X t σ H fun k H1 => if k = true then WE X a σ H1 Q else WE X b σ H1 Q) : WE X (.IfExp t a b pos) σ H Q := ⟨_, pe_ifExp WT.pt WE.pe WE.pe, h⟩
theorem e_and {rest : List Expr} (h : WE X a σ H fun x H1 => ∃ c, x = .bl c ∧ if c = true then WE X (.BoolOp .And (b :: rest) pos) σ H1 Q else Q (.bl false) H1) : WE X (.BoolOp .And (a :: b :: rest) pos) σ H Q := ⟨_, pe_and WE.pe WE.pe, h⟩
theorem e_or {rest : List Expr} (h : WE X a σ H fun x H1 => ∃ c, x = .bl c ∧ if c = true then Q (.bl true) H1 else WE X (.BoolOp .Or (b :: rest) pos) σ H1 Q) : WE X (.BoolOp .Or (a :: b :: rest) pos) σ H Q := ⟨_, pe_or WE.pe WE.pe, h⟩
theorem e_one {op} (h : WE X a σ H Q) : WE X (.BoolOp op [a] pos) σ H Q := ⟨_, pe_one WE.pe, h⟩
theorem e_not (h : WE X a σ H fun x H1 => ∃ c, x = .bl c ∧ Q (.bl (!c)) H1) : WE X (.UnaryOp .Not a pos) σ H Q := ⟨_, pe_not WE.pe, h⟩
theorem e_lst {es : List Expr} (h : WA X es σ H fun xs H1 => xs.length ≤ sizeLine ∧ ∀ p, H1 p = none → Q (.ref p) (upd H1 p (.lst xs))) : WE X (.List es pos) σ H Q := ⟨_, pe_lst WA.pa, h⟩
theorem e_tup {es : List Expr} {k : Nat} (h : WA X es σ H fun xs H1 => xs.length ≤ sizeLine ∧ ∀ p, H1 p = none → Q (.ref p) (upd H1 p (.tup xs))) : WE X (.Tuple es k pos) σ H Q := ⟨_, pe_tup WA.pa, h⟩
theorem e_ixL (hs : PlainIx b := by exact fun _ _ => rfl) (h : WE X a σ H fun x H1 => WE X b σ H1 fun y H2 => ∃ p xs i v, x = .ref p ∧ y = .int i ∧ SqL X.K H2 p xs ∧ atI xs i = some v ∧ Q v H2) : WE X (.Subscript a b pos) σ H Q := ⟨_, pe_ix ix_list WE.pe WE.pe hs, h⟩
theorem e_ixT (hs : PlainIx b := by exact fun _ _ => rfl) (h : WE X a σ H fun x H1 => WE X b σ H1 fun y H2 => ∃ p xs i v, x = .ref p ∧ y = .int i ∧ SqT X.K H2 p xs ∧ atI xs i = some v ∧ Q v H2) : WE X (.Subscript a b pos) σ H Q := ⟨_, pe_ix ix_tup WE.pe WE.pe hs, h⟩
theorem e_fld {f : Str} (hb : attributeBase e f X.env (eval e X.env) = eval e X.env := by rfl) (h : WE X e σ H fun x H1 => ∃ a C dx fs v, x = .ref a ∧ H1 a = some (.ins C dx fs) ∧ Cls X.K C ∧ NoAttr X.K C f ∧ fs.lookup f = some v ∧ Q v H1) : WE X (.Attribute e f pos) σ H Q := ⟨_, pe_fld WE.pe hb, h⟩
theorem e_slice {lo hi : Option Expr} (h : WE X a σ H fun x H1 => WO X lo σ H1 fun i H2 => WO X hi σ H2 fun j H3 => ∃ a xs, x = .ref a ∧ SqL X.K H3 a xs ∧ ∀ p, H3 p = none → Q (.ref p) (upd H3 p (.lst (cutV xs i j)))) : WE X (.Subscript a (.Slice lo hi none p2) pos) σ H Q := ⟨_, pe_slice sl_list WE.pe WO.po WO.po, h⟩
theorem o_none {Q : Option Int → Hp → Prop} (q : Q none H) : WO X none σ H Q := ⟨_, po_none, q⟩
theorem o_some {Q : Option Int → Hp → Prop} (h : WE X e σ H fun x H1 => ∃ i, x = .int i ∧ Q (some i) H1) : WO X (some e) σ H Q := ⟨_, po_some WE.pe, h⟩
/-- a built-in by its name -/
theorem e_blt {id : String} {rc : List V → Hp → VK → Prop} {es : List Expr} (hc : CallR X (.builtin id) rc) (hm : X.mg x = none) (hv : bootBuiltins x = some (.builtin id)) (h : WA X (e :: es) σ H fun vs H1 => rc vs H1 Q)
    (hg : Gl X x := by rfl) (hn : x ≠ "__name__" := by decide) (hd : (x == ("__debug__" : Str)) = false := by decide) (he : starEach (e :: es) X.env = (false, eval e X.env) :: starEach es X.env := by rfl) (hpl : (backTo pos (starEach es X.env)).any (·.1) = false := by rfl) : WE X (.Call (.Name x p2) (e :: es) [] pos) σ H Q :=
  ⟨_, pe_callB hc hg hm hv WA.pa hn hd he hpl, h⟩
end
section
variable {X : Cx} {σ : L2.St} {H : Hp} {Q : VK} {a b c e : Expr} {pos p2 : Pos} {x : Str} {v : V} {r r2 : R2} {es : List Expr} {QA : List V → Hp → Prop} {QT : Bool → Hp → Prop}
theorem e_ty {T : String} {rc : List V → Hp → VK → Prop} (hc : CallR X (.type T) rc) (hm : X.mg x = none) (hv : bootBuiltins x = some (.type T)) (h : WA X (e :: es) σ H fun vs H1 => rc vs H1 Q)
    (hg : Gl X x := by rfl) (hn : x ≠ "__name__" := by decide) (hd : (x == ("__debug__" : Str)) = false := by decide) (he : starEach (e :: es) X.env = (false, eval e X.env) :: starEach es X.env := by rfl) (hpl : (backTo pos (starEach es X.env)).any (·.1) = false := by rfl) : WE X (.Call (.Name x p2) (e :: es) [] pos) σ H Q :=
  ⟨_, pe_callTy hc hg hm hv WA.pa hn hd he hpl, h⟩
theorem a_nil (q : QA [] H) : WA X [] σ H QA := ⟨_, pa_nil, q⟩
theorem a_cons (hp : starEach (e :: es) X.env = (false, eval e X.env) :: starEach es X.env := by rfl) (h : WE X e σ H fun x H1 => WA X es σ H1 fun xs H2 => QA (x :: xs) H2) : WA X (e :: es) σ H QA := ⟨_, pa_cons WE.pe WA.pa hp, h⟩
theorem k_nil (q : QA [] H) : WK X [] σ H QA := ⟨_, pk_nil, q⟩
theorem k_cons {nm : Option Str} {kp : Pos} {ks : List Keyword} (h : WE X e σ H fun x H1 => WK X ks σ H1 fun xs H2 => QA (x :: xs) H2) : WK X (⟨nm, e, kp⟩ :: ks) σ H QA := ⟨_, pk_cons WE.pe WK.pk, h⟩

/-! ### tests -/
theorem t_val (h : WE X e σ H fun x H1 => ∃ k, x = .bl k ∧ QT k H1) (he : ∀ whole, isTrue e X.env whole = (do let v ← whole; standAt e.pos; holding [v] (truthy v)) := by intro _; rfl) : WT X e σ H QT := ⟨_, pt_val WE.pe he, h⟩
theorem t_tru (h : WE X e σ H fun x H1 => ∃ k, TruV X.K x H1 k ∧ QT k H1) (he : ∀ whole, isTrue e X.env whole = (do let v ← whole; standAt e.pos; holding [v] (truthy v)) := by intro _; rfl) : WT X e σ H QT := ⟨_, pt_truth WE.pe he, h⟩
theorem t_cmp {op : CmpOp} (ho : OpR X (compareOp op) r) (hm : behindInMarks op b = false := by first | exact nomark _ | rfl) (h : WE X a σ H fun x H1 => WE X b σ H1 fun y H2 => r x y H2 fun z H3 => ∃ k, z = .bl k ∧ QT k H3) : WT X (.Compare a [op] [b] pos) σ H QT := ⟨_, pt_cmpR ho WE.pe WE.pe hm, h⟩
theorem t_chain {op op' : CmpOp} {r' : R2} (ho : OpR X (compareOp op) r) (ho' : OpR X (compareOp op') r') (hm : lastMarks [op, op'] [b, c] = false := by with_unfolding_all rfl) (h : WE X a σ H fun x H1 => WE X b σ H1 fun y H2 => r x y H2 fun z H3 => ∃ k, z = .bl k ∧ (if k = true then WE X c σ H3 (fun w H4 => r' y w H4 fun z H5 => ∃ k, z = .bl k ∧ QT k H5) else ∃ k', V.bl false = .bl k' ∧ QT k' H3)) : WT X (.Compare a [op, op'] [b, c] pos) σ H QT := ⟨_, pt_chain ho ho' WE.pe WE.pe WE.pe hm, by
    show WE X a σ H fun x H1 => WE X b σ H1 fun y H2 => r x y H2 fun z H3 => ∃ k, z = .bl k ∧ (if k = true then WE X c σ H3 (fun w H4 => r' y w H4 fun z H5 => ∃ k, z = .bl k ∧ QT k H5) else (fun (x : V) H' => ∃ k, x = V.bl k ∧ QT k H') (.bl false) H3)
    exact h⟩
theorem t_not (h : WT X a σ H fun k H1 => QT (!k) H1) : WT X (.UnaryOp .Not a pos) σ H QT := ⟨_, pt_not WT.pt, h⟩
theorem t_wb (h : WB X e σ H QT) : WT X e σ H QT := ⟨_, WB.pw.pt, h⟩
theorem b_and {rest : List Expr} (h : WT X a σ H fun k H1 => if k = true then WB X (.BoolOp .And (b :: rest) pos) σ H1 QT else QT false H1) : WB X (.BoolOp .And (a :: b :: rest) pos) σ H QT := ⟨_, pw_and WT.pt WB.pw, h⟩
theorem b_or {rest : List Expr} (h : WT X a σ H fun k H1 => if k = true then QT true H1 else WB X (.BoolOp .Or (b :: rest) pos) σ H1 QT) : WB X (.BoolOp .Or (a :: b :: rest) pos) σ H QT := ⟨_, pw_or WT.pt WB.pw, h⟩
theorem b_and1 (h : WT X a σ H QT) : WB X (.BoolOp .And [a] pos) σ H QT := ⟨_, pw_and1 WT.pt, h⟩
theorem b_or1 (h : WT X a σ H QT) : WB X (.BoolOp .Or [a] pos) σ H QT := ⟨_, pw_or1 WT.pt, h⟩

/-! ### targets -/
theorem g_name (i : Nat) {QG : L2.St → Hp → Prop} (hN : X.N.Nodup) (hi : X.N[i]? = some x := by rfl) (hx : Loc X.env.scope x := by first | exact Or.inl rfl | exact Or.inr rfl) (hf : X.fn x = true ∨ X.env.scope.names.lookup x = some .local := by first | exact .inl rfl | exact .inr rfl | assumption) (q : QG (σ.set i (some v)) H) : WG X (.Name x pos) v σ H QG := ⟨_, pg_name hN hi hx hf, q⟩
theorem gs_nil {QG : L2.St → Hp → Prop} (q : QG σ H) : WGs X [] [] σ H QG := ⟨_, pgs_nil, rfl, q⟩
theorem gs_cons {QG : L2.St → Hp → Prop} {vs : List V} (hs : (assignEach (e :: es) X.env).map (·.2) = assign e X.env :: (assignEach es X.env).map (·.2) := by rfl) (h : WG X e v σ H fun σ' H' => WGs X es vs σ' H' QG) : WGs X (e :: es) (v :: vs) σ H QG := ⟨_, pgs_cons WG.pg WGs.pgs hs, v, vs, rfl, h⟩
theorem g_tup {QG : L2.St → Hp → Prop} {k n : Nat} {p : Addr} {vs : List V} (hq : SqT X.K H p vs) (hl : vs.length = n) (hc : X.calm = true := by rfl) (hn : (assignEach es X.env).length = n := by rfl) (hst : (assignEach es X.env).findIdx? (·.1) = none := by rfl) (h : WGs X es vs σ H QG) : WG X (.Tuple es k pos) (.ref p) σ H QG := ⟨_, pg_tup hc WGs.pgs hn hst, p, vs, rfl, hq, hl, h⟩

/-! ### statements -/
variable {D : Ends} {st : Stmt} {rest body orelse : List Stmt}
theorem s_nil (q : D.nx σ H) : WSs X [] D σ H := ⟨_, pss_nil, q⟩
theorem s_cons (h : WS X st { D with nx := WSs X rest D } σ H) : WSs X (st :: rest) D σ H := ⟨_, pss_cons WS.ps WSs.pss, h⟩
theorem s_one (h : WS X st D σ H) : WSs X [st] D σ H := ⟨_, pss_one WS.ps, h⟩
theorem s_pass (q : D.nx σ H) : WS X (.Pass pos) D σ H := ⟨_, ps_pass, q⟩
theorem s_break (q : D.bk σ H) : WS X (.Break pos) D σ H := ⟨_, ps_break, q⟩
theorem s_cont (q : D.ct σ H) : WS X (.Continue pos) D σ H := ⟨_, ps_continue, q⟩
theorem s_expr (hs : swapsWith e none pos.line X.env = pure false := by rfl) (h : WE X e σ H fun _ H1 => D.nx σ H1) : WS X (.Expr e pos) D σ H := ⟨_, ps_expr WE.pe hs, h⟩
theorem s_ret (h : WE X e σ H D.rt) : WS X (.Return (some e) pos) D σ H := ⟨_, ps_ret WE.pe, h⟩
theorem s_retN (h : D.rt .non H) : WS X (.Return none pos) D σ H := ⟨_, ps_retN, h⟩
theorem s_if (h : WT X c σ H fun k H1 => if k = true then WSs X body D σ H1 else WSs X orelse D σ H1) : WS X (.If c body orelse pos) D σ H := ⟨_, ps_if WT.pt WSs.pss WSs.pss, h⟩
theorem s_set (i : Nat) (hN : X.N.Nodup) (hi : X.N[i]? = some x := by rfl) (hx : Loc X.env.scope x := by first | exact Or.inl rfl | exact Or.inr rfl) (hs : swapsWith e (some (.Name x p2)) pos.line X.env = pure false := by rfl)
    (hf : X.fn x = true ∨ X.env.scope.names.lookup x = some .local := by first | exact .inl rfl | exact .inr rfl | assumption) (h : WE X e σ H fun v H1 => D.nx (σ.set i (some v)) H1) : WS X (.Assign [.Name x p2] e pos) D σ H := ⟨_, ps_set hN hi hx WE.pe hs hf, h⟩
theorem s_asg {tg : Expr} (hs : swapsWithSole [tg] e pos.line X.env = pure false := by rfl) (hw : swappedStores [tg] e X.env = pure none := by rfl) (h1 : (assignEach [tg] X.env).map (·.2) = [assign tg X.env] := by rfl)
    (h : WE X e σ H fun v H1 => WG X tg v σ H1 D.nx) : WS X (.Assign [tg] e pos) D σ H := ⟨_, ps_asg WE.pe WG.pg hs hw h1, h⟩
theorem s_par (i j : Nat) {x y : Str} {px py pt : Pos} {kt k2 pt2} (hN : X.N.Nodup) (hij : i ≠ j := by decide) (hc : X.calm = true := by rfl) (hi : X.N[i]? = some x := by rfl) (hj : X.N[j]? = some y := by rfl)
    (hx : X.env.scope.names.lookup x = some .local := by rfl) (hy : X.env.scope.names.lookup y = some .local := by rfl) (hw : swappedStores [.Tuple [.Name x px, .Name y py] kt pt] (.Tuple [a, b] k2 pt2) X.env = pure (some [x, y]) := by rfl)
    (hs : swapsWithSole [.Tuple [.Name x px, .Name y py] kt pt] (.Tuple [a, b] k2 pt2) pos.line X.env = pure false := by rfl)
    (h : WA X [a, b] σ H fun vs H1 => ∃ v w, vs = [v, w] ∧ D.nx ((σ.set i (some v)).set j (some w)) H1) : WS X (.Assign [.Tuple [.Name x px, .Name y py] kt pt] (.Tuple [a, b] k2 pt2) pos) D σ H := ⟨_, ps_par hc hN hi hj hij hx hy WA.pa hw hs, h⟩
theorem s_never (h : False) : WS X st D σ H := h.elim
theorem s_fld {f : Str} {o value : Expr} {pos' : Pos} (hs : swapsWith value (some (.Attribute o f pos')) pos.line X.env = pure false := by rfl) (h : sFld X.K (WE X o) (WE X value) f D σ H) : WS X (.Assign [.Attribute o f pos'] value pos) D σ H := ⟨_, ps_fld WE.pe WE.pe hs, h⟩
theorem s_sub {o i value : Expr} {spos : Pos} (h : WE X value σ H fun v H1 => WE X o σ H1 fun ov H2 => WE X i σ H2 fun iv H3 => ∃ p xs k j, ov = .ref p ∧ iv = .int k ∧ H3 p = some (.lst xs) ∧ ixN xs.length k = some j ∧ D.nx σ (upd H3 p (.lst (xs.set j v))))
    (ha : ∀ v, assign (.Subscript o i spos) X.env v = (do
      let ov ← holding [v] (eval o X.env)
      let iv ← holding [v, ov] (eval i X.env)
      standAt spos
      holding [v, ov, iv] (setItem ov iv v)
      release [v, ov, iv] []) := by intro _; rfl)
    (hs : swapsWithSole [.Subscript o i spos] value pos.line X.env = pure false := by rfl) (hw : swappedStores [.Subscript o i spos] value X.env = pure none := by rfl) (h1 : (assignEach [.Subscript o i spos] X.env).map (·.2) = [assign (.Subscript o i spos) X.env] := by rfl) :
    WS X (.Assign [.Subscript o i spos] value pos) D σ H := ⟨_, ps_asg WE.pe (pg_sub WE.pe WE.pe set_list ha) hs hw h1, h⟩

/-! ### loops -/
variable {tg iter : Expr}
def tForR (J : It) (g : TG) (tb : TS) (D : Ends) (σ : L2.St) (H : Hp) : Prop := ∃ W : Nat → Nat → L2.St → Hp → Prop, (∃ m, W 0 m σ H) ∧ ∀ i m σ H, W i m σ H →
  (J.stop i H ∧ D.nx σ H) ∨ (J.go i H ∧ ∃ N : L2.St → Hp → Prop, (∀ σ' H', N σ' H' → ∃ m', m' < m ∧ W (i + 1) m' σ' H') ∧ ∀ x H', J.yld i H x H' → g x σ H' fun σ2 H2 => tb { D with nx := N, ct := N, bk := D.nx } σ2 H2)
theorem s_for (hp : PassesOwn (model X.prog X.w) X.A X.env X.xe := by exact PassesOwn.never) (hc : X.calm = true := by rfl) (hs : ∀ x, foldedSetIterable iter X.env x = pure x := by intro _; rfl)
    (h : WI X tg iter σ H fun J H1 => tForR J (WG X tg) (WSs X body) D σ H1) : WS X (.For tg iter body [] pos) D σ H := ⟨_, ps_for hp hc WI.pi WG.pg WSs.pss hs, h⟩
variable {R : It → Hp → Prop}
theorem i_list (h : WE X e σ H fun x H1 => ∃ a, x = .ref a ∧ (∃ xs, SqL X.K H1 a xs) ∧ R (Itl X.K a) H1) : WI X tg e σ H R := ⟨_, pi_list WE.pe, h⟩
theorem i_tup (h : WE X e σ H fun x H1 => ∃ a, x = .ref a ∧ (∃ xs, SqT X.K H1 a xs) ∧ R (Itt X.K a) H1) : WI X tg e σ H R := ⟨_, pi_tup WE.pe, h⟩
theorem i_rng1 (hm : X.mg "range" = none) (hg : Gl X "range" := by rfl) (hs : starEach [a] X.env = [(false, eval a X.env)] := by rfl) (h : WE X a σ H fun x H1 => ∃ j : Int, x = .int j ∧ -(2 ^ 62) ≤ j ∧ j < 2 ^ 62 ∧ R (Itr 0 j.toNat) H1) : WI X tg (.Call (.Name "range" p2) [a] [] pos) σ H R :=
  ⟨_, pi_range1 hg hm (pa_cons WE.pe pa_nil (by rw [hs]; rfl)) hs, by
    obtain ⟨t, h1, h2⟩ := h
    show WE X a σ H fun x H1 => ∃ j : Int, [x] = [.int j] ∧ -(2 ^ 62) ≤ j ∧ j < 2 ^ 62 ∧ R (Itr 0 j.toNat) H1
    have e : (fun (x : V) (H1 : Hp) => ∃ j : Int, [x] = [V.int j] ∧ -(2 ^ 62) ≤ j ∧ j < 2 ^ 62 ∧ R (Itr 0 j.toNat) H1) = (fun x H1 => ∃ j : Int, x = .int j ∧ -(2 ^ 62) ≤ j ∧ j < 2 ^ 62 ∧ R (Itr 0 j.toNat) H1) := by
      funext x H1
      simp only [List.cons.injEq, and_true]
    rw [e]
    exact ⟨t, h1, h2⟩⟩
theorem i_rng2 (hm : X.mg "range" = none) (hg : Gl X "range" := by rfl) (hs : starEach [a, b] X.env = [(false, eval a X.env), (false, eval b X.env)] := by rfl) (hs2 : starEach [b] X.env = [(false, eval b X.env)] := by rfl)
    (h : WA X [a, b] σ H fun vs H1 => ∃ i j : Int, vs = [.int i, .int j] ∧ (-(2 ^ 62) ≤ i ∧ i < 2 ^ 62 ∧ -(2 ^ 62) ≤ j ∧ j < 2 ^ 62) ∧ R (Itr i (j - i).toNat) H1) : WI X tg (.Call (.Name "range" p2) [a, b] [] pos) σ H R := ⟨_, pi_range2 hg hm WA.pa hs hs2, h⟩
theorem i_enum {elts : List Expr} {kk : Nat} {tpos : Pos} (hm : X.mg "enumerate" = none) (hg : Gl X "enumerate" := by rfl) (hs : starEach [a] X.env = [(false, eval a X.env)] := by rfl)
    (h : WA X [a] σ H fun vs H1 => ∃ p xs, vs = [.ref p] ∧ SqL X.K H1 p xs ∧ R (Ite X.K p) H1) : WI X (.Tuple elts kk tpos) (.Call (.Name "enumerate" p2) [a] [] pos) σ H R := ⟨_, pi_enum hg hm WA.pa hs, h⟩
theorem i_zip {elts : List Expr} {kk : Nat} {tpos : Pos} (hm : X.mg "zip" = none) (hg : Gl X "zip" := by rfl) (hs : starEach [a, b] X.env = (false, eval a X.env) :: starEach [b] X.env := by rfl) (hpl : (backTo pos (starEach [b] X.env)).any (·.1) = false := by rfl)
    (h : WA X [a, b] σ H fun vs H1 => ∃ p q xs ys, vs = [.ref p, .ref q] ∧ SqL X.K H1 p xs ∧ SqL X.K H1 q ys ∧ R (Itz X.K p q) H1) : WI X (.Tuple elts kk tpos) (.Call (.Name "zip" p2) [a, b] [] pos) σ H R := ⟨_, pi_zip hg hm WA.pa hs hpl, h⟩

/-! ### comprehensions: the block's rules are left open, too -/
def GBlk (X : Cx) (scope : Scope) (tg : Expr) : TG := fun v σ H Q => ∀ (s : Shared) (H0 : Hp) (C : Addr) (cl : List (Str × Addr)) (fp : List Addr), WG (X.blk s H0 scope (compEnvC scope cl C X.env) fp) tg v σ H Q
def TBlk (X : Cx) (scope : Scope) (ifs : List Expr) : TT := fun σ H Q => ∀ (s : Shared) (H0 : Hp) (C : Addr) (cl : List (Str × Addr)) (fp : List Addr), WTs (X.blk s H0 scope (compEnvC scope cl C X.env) fp) ifs σ H Q
def EBlk (X : Cx) (scope : Scope) (elt : Expr) : TE := fun σ H Q => ∀ (s : Shared) (H0 : Hp) (C : Addr) (cl : List (Str × Addr)) (fp : List Addr), WE (X.blk s H0 scope (compEnvC scope cl C X.env) fp) elt σ H Q
def tLcR (J : It) (g : TG) (tt : TT) (te : TE) (vs : List Nat) (σ : L2.St) (H1 : Hp) (D : Addr) (Qd : Hp → Prop) : Prop := ∃ W : Nat → Nat → Hp → Prop, (∃ m, W 0 m (upd H1 D (.lst []))) ∧ ∀ i m H, W i m H →
  (J.stop i H ∧ Qd H) ∨ (J.go i H ∧ ∃ Nx : Hp → Prop, (∀ H', Nx H' → ∃ m', m' < m ∧ W (i + 1) m' H') ∧ ∀ x H', J.yld i H x H' → g x (wipe σ vs) H' fun σ2 H2 => wipe σ2 vs = wipe σ vs ∧ tt σ2 H2 fun b H3 =>
    if b = true then te σ2 H3 fun y H4 => ∃ acc, H4 D = some (.lst acc) ∧ acc.length < sizeLine ∧ Nx (upd H4 D (.lst (acc ++ [y]))) else Nx H3)
variable {elt : Expr} {ifs : List Expr} {scope : Scope}
theorem blk_g : ∀ (s : Shared) (H : Hp) (C : Addr) (cl : List (Str × Addr)) (fp : List Addr), PG (X.blk s H scope (compEnvC scope cl C X.env) fp) tg (GBlk X scope tg) := fun s H0 C cl fp => ⟨fun pins s' σ H v u Q I r h => WG.pg.run pins s' σ H v u Q I r (h s H0 C cl fp)⟩
theorem blk_t : ∀ (s : Shared) (H : Hp) (C : Addr) (cl : List (Str × Addr)) (fp : List Addr), PTs (X.blk s H scope (compEnvC scope cl C X.env) fp) ifs (TBlk X scope ifs) := fun s H0 C cl fp => ⟨fun pins s' σ H Q I h => WTs.pts.run pins s' σ H Q I (h s H0 C cl fp)⟩
theorem blk_e : ∀ (s : Shared) (H : Hp) (C : Addr) (cl : List (Str × Addr)) (fp : List Addr), PE (X.blk s H scope (compEnvC scope cl C X.env) fp) elt (EBlk X scope elt) := fun s H0 C cl fp => ⟨fun pins s' σ H Q I h => WE.pe.run pins s' σ H Q I (h s H0 C cl fp)⟩
theorem ts_nil (q : QT true H) : WTs X [] σ H QT := ⟨_, pts_nil, q⟩
theorem ts_one (h : WT X c σ H QT) : WTs X [c] σ H QT := ⟨_, pts_one WT.pt, h⟩
theorem e_lc (own : List (Str × Nat)) (hN : X.N.Nodup) (ok : BlkOk X.N X.env.scope scope own := by exact blkOk_by (by decide +kernel)) (hc : X.calm = true := by rfl) (hs : ∀ x, foldedSetIterable iter X.env x = pure x := by intro _; rfl)
    (h : WI X tg iter σ H fun J H1 => ∀ D, H1 D = none → tLcR J (GBlk X scope tg) (TBlk X scope ifs) (EBlk X scope elt) (own.map (·.2)) σ H1 D (Q (.ref D))) : WE X (.ListComp elt [⟨tg, iter, ifs, 0⟩] scope pos) σ H Q :=
  ⟨_, pe_lc hc hN WI.pi ok blk_g blk_t blk_e hs, h⟩
theorem s_setLc (i : Nat) (own : List (Str × Nat)) (hN : X.N.Nodup) {y : Str} (hy : X.N[i]? = some y := by rfl) (hyl : X.env.scope.names.lookup y = some .local := by rfl)
    (ok : BlkOk X.N X.env.scope scope own := by exact blkOk_by (by decide +kernel)) (hc : X.calm = true := by rfl) (hs : ∀ x, foldedSetIterable iter X.env x = pure x := by intro _; rfl)
    {spos : Pos} (hsw2 : swapsWith (.ListComp elt [⟨tg, iter, ifs, 0⟩] scope pos) (some (.Name y p2)) spos.line X.env = pure true := by exact sw_true rfl rfl rfl (by decide +kernel))
    (h : WI X tg iter σ H fun J H1 => ∀ D, H1 D = none → tLcR J (GBlk X scope tg) (TBlk X scope ifs) (EBlk X scope elt) (own.map (·.2)) σ H1 D (fun H2 => D'.nx (σ.set i (some (.ref D))) H2)) : WS X (.Assign [.Name y p2] (.ListComp elt [⟨tg, iter, ifs, 0⟩] scope pos) spos) D' σ H :=
  ⟨_, ps_setLc hc hN hy hyl hsw2 WI.pi ok blk_g blk_t blk_e hs, h⟩
end
end Lw
namespace Lw
open PySem PySem.Spec L2 Evl

/-! ### calls -/
/-- a def of the module that keeps a promise and lets nothing out -/
structure Cal (P : Program) (w : World) (K : PySem.W.Frag) (mg : Str → Option Value) (base : Heap) (x : Str) (k : Nat) (ps : List Str) (sp : Sp) : Prop where
  ex : ∃ f fd, FnOk P w K mg base CX0 k f fd ps sp ∧ mg x = some (.ref f) ∧ PySem.W.keepIn K (.ref f) = true ∧ Binds K fd ps []
/-- .. called by keywords alone -/
structure CalK (P : Program) (w : World) (K : PySem.W.Frag) (mg : Str → Option Value) (base : Heap) (x : Str) (k : Nat) (ps ks : List Str) (gV : List V → List V) (sp : Sp) : Prop where
  ex : ∃ f fd g, FnOk P w K mg base CX0 k f fd ps sp ∧ mg x = some (.ref f) ∧ PySem.W.keepIn K (.ref f) = true ∧ KBn K fd ps 0 ks g (fun _ zs => gV zs)
section
variable {X : Cx} {σ : L2.St} {H : Hp} {Q : VK} {a b c e o : Expr} {pos p2 apos : Pos} {x m : Str} {v : V} {es : List Expr} {k : Nat} {ps ks : List Str} {sp : Sp} {gV : List V → List V}
theorem e_call (cl : Cal X.prog X.w X.K X.mg X.base x k ps sp) (hr : Room k X.A) (hg : Gl X x := by rfl) (hdb : (x == ("__debug__" : Str)) = false := by decide) (he : starEach (e :: es) X.env = (false, eval e X.env) :: starEach es X.env := by rfl) (hpl : (backTo pos (starEach es X.env)).any (·.1) = false := by rfl)
    (h : WA X (e :: es) σ H fun vs H1 => sp vs H1 Q E0) : WE X (.Call (.Name x p2) (e :: es) [] pos) σ H Q := by
  obtain ⟨f, fd, F, hm, hk, hb⟩ := cl.ex
  refine ⟨_, pe_call F hr hg hm hk hb .nil pass0 WA.pa hdb he hpl, ?_⟩
  show WA X (e :: es) σ H fun vs H1 => sp (vs ++ []) H1 Q E0
  simp only [List.append_nil]
  exact h
theorem e_call0 (cl : Cal X.prog X.w X.K X.mg X.base x k ps sp) (hr : Room k X.A) (hg : Gl X x := by rfl) (hdb : (x == ("__debug__" : Str)) = false := by decide)
    (h : sp [] H Q E0) : WE X (.Call (.Name x p2) [] [] pos) σ H Q := by
  obtain ⟨f, fd, F, hm, hk, hb⟩ := cl.ex
  exact ⟨_, pe_call0 F hr hg hm hk hb .nil pass0 hdb, h⟩
theorem pe_callN0 {CX : CXT} {f : Addr} {fd : FuncData} {E : XK} {kws : List Keyword} {tk : TA} {g : List Value → List Value → List Value} {gW : List V → List V → List V} (F : FnOk X.prog X.w X.K X.mg X.base CX k f fd ps sp) (hr : Room k X.A) (hg : Gl X x) (hm : X.mg x = some (.ref f)) (hk : PySem.W.keepIn X.K (.ref f) = true) (hb : KBn X.K fd ps 0 ks g gW) (hx : Passes CX X E)
    (hkw : PK X kws tk) (hall : (backToKw pos (keywordEach kws X.env)).all (·.1.isSome) = true := by rfl) (hks : (backToKw pos (keywordEach kws X.env)).filterMap (·.1) = ks := by rfl)
    (hdb : (x == ("__debug__" : Str)) = false := by decide)
    (hpl : ((backTo pos (starEach [] X.env)).any (·.1) || (backToKw pos (keywordEach kws X.env)).any (·.1.isNone)) = false := by rfl) :
    PE X (.Call (.Name x p2) [] kws pos) (tCallN 0 ks.length sp gW E tNil tk) := by
  refine ⟨fun pins s σ H Q I h => ?_⟩
  refine wpAny_Call_Name_kw (ld_glob I hg hm ?_ hdb)
  refine PySem.W.callWith_KW0 (h₀ := X.base) I.ok.mod.kin hk hall ?_ hpl
  refine thn (hkw.run pos pins s σ H _ I h) fun ws s2 ⟨zs, H2, I2, rz, l1, l2, q2⟩ => ⟨I2.kIn, ?_⟩
  rw [hks]
  exact run_fnN (us := []) (vs := []) F hr hb hx I2 .nil rz rfl l2 q2
theorem e_callK {kws : List Keyword} (cl : CalK X.prog X.w X.K X.mg X.base x k ps ks gV sp) (hr : Room k X.A) (hg : Gl X x := by rfl) (hdb : (x == ("__debug__" : Str)) = false := by decide)
    (hall : (backToKw pos (keywordEach kws X.env)).all (·.1.isSome) = true := by rfl) (hks : (backToKw pos (keywordEach kws X.env)).filterMap (·.1) = ks := by rfl)
    (hpl : ((backTo pos (starEach [] X.env)).any (·.1) || (backToKw pos (keywordEach kws X.env)).any (·.1.isNone)) = false := by rfl)
    (h : WK X kws σ H fun zs H1 => ([] : List V).length = 0 ∧ zs.length = ks.length ∧ sp (gV zs) H1 Q E0) : WE X (.Call (.Name x p2) [] kws pos) σ H Q := by
  obtain ⟨f, fd, g, F, hm, hk, hb⟩ := cl.ex
  exact ⟨_, pe_callN0 F hr hg hm hk hb pass0 WK.pk hall hks hdb hpl, h⟩
end
/-- a method of the class at C | its __init__ | a property -/
structure CalM (P : Program) (w : World) (K : PySem.W.Frag) (mg : Str → Option Value) (base : Heap) (C : Addr) (m : Str) (k : Nat) (ps : List Str) (sp : Sp) : Prop where
  ex : ∃ f fd, FnOk P w K mg base CX0 k f fd ps sp ∧ Cls K C ∧ Meth K C m f ∧ Binds K fd ps []
structure CalI (P : Program) (w : World) (K : PySem.W.Frag) (mg : Str → Option Value) (base : Heap) (C : Addr) (x : Str) (k : Nat) (ps : List Str) (sp : Sp) : Prop where
  ex : ∃ f fd, FnOk P w K mg base CX0 k f fd ps sp ∧ mg x = some (.ref C) ∧ Mk K C f ∧ Binds K fd ps []
structure CalP (P : Program) (w : World) (K : PySem.W.Frag) (mg : Str → Option Value) (base : Heap) (C : Addr) (m : Str) (k : Nat) (sp : Sp) : Prop where
  ex : ∃ p g fd ps, FnOk P w K mg base CX0 k g fd ps sp ∧ Cls K C ∧ PropOf K C m p g ∧ Binds K fd ps []
section
variable {X : Cx} {σ : L2.St} {H : Hp} {Q : VK} {a b c e o : Expr} {pos p2 apos : Pos} {x m : Str} {v : V} {es : List Expr} {k : Nat} {ps ks : List Str} {sp : Sp} {C : Addr}
theorem e_meth {pl : Sem Bool} (cl : CalM X.prog X.w X.K X.mg X.base C m k ps sp) (hr : Room k X.A)
    (hst : starEach (e :: es) X.env = (false, eval e X.env) :: starEach es X.env := by rfl) (hpl : (backTo pos (starEach es X.env)).any (·.1) = false := by rfl)
    (ht : eval (.Call (.Attribute o m apos) (e :: es) [] pos) X.env = (do
      let ov ← eval o X.env
      standAt apos.atName
      let (f, first) ← holding [ov] (getMethod ov m pl)
      callWith pos f first (backTo pos (starEach (e :: es) X.env)) (backToKw pos (keywordEach [] X.env))) := by rfl)
    (h : WE X o σ H fun x H1 => ∃ a dx fs, x = .ref a ∧ H1 a = some (.ins C dx fs) ∧ fs.lookup m = none ∧ WA X (e :: es) σ H1 fun vs H2 => sp (x :: vs) H2 Q E0) : WE X (.Call (.Attribute o m apos) (e :: es) [] pos) σ H Q := by
  obtain ⟨f, fd, F, hc, hm, hb⟩ := cl.ex
  refine ⟨_, pe_meth (pl := pl) WE.pe hc hm F hr hb .nil pass0 WA.pa hst hpl ht, ?_⟩
  show WE X o σ H fun x H1 => ∃ a dx fs, x = .ref a ∧ H1 a = some (.ins C dx fs) ∧ fs.lookup m = none ∧ WA X (e :: es) σ H1 fun vs H2 => sp (x :: (vs ++ [])) H2 Q E0
  simp only [List.append_nil]
  exact h
theorem e_meth0 {pl : Sem Bool} (cl : CalM X.prog X.w X.K X.mg X.base C m k ps sp) (hr : Room k X.A)
    (ht : eval (.Call (.Attribute o m apos) [] [] pos) X.env = (do
      let ov ← eval o X.env
      standAt apos.atName
      let (f, first) ← holding [ov] (getMethod ov m pl)
      callWith pos f first (backTo pos (starEach [] X.env)) (backToKw pos (keywordEach [] X.env))) := by rfl)
    (h : WE X o σ H fun x H1 => ∃ a dx fs, x = .ref a ∧ H1 a = some (.ins C dx fs) ∧ fs.lookup m = none ∧ sp [x] H1 Q E0) : WE X (.Call (.Attribute o m apos) [] [] pos) σ H Q := by
  obtain ⟨f, fd, F, hc, hm, hb⟩ := cl.ex
  exact ⟨_, pe_meth0 (pl := pl) WE.pe hc hm F hr hb .nil pass0 ht, h⟩
theorem e_make (cl : CalI X.prog X.w X.K X.mg X.base C x k ps sp) (hr : Room (k + 1) X.A) (hg : Gl X x := by rfl) (hdb : (x == ("__debug__" : Str)) = false := by decide) (he : starEach (e :: es) X.env = (false, eval e X.env) :: starEach es X.env := by rfl) (hpl : (backTo pos (starEach es X.env)).any (·.1) = false := by rfl)
    (h : WA X (e :: es) σ H fun vs H1 => ∀ x dx, H1 x = none → H1 dx = none → dx ≠ x → sp (.ref x :: vs) (upd (upd H1 dx (.own x)) x (.ins C dx [])) (fun v H2 => v = .non ∧ Q (.ref x) H2) E0) : WE X (.Call (.Name x p2) (e :: es) [] pos) σ H Q := by
  obtain ⟨f, fd, F, hm, hM, hb⟩ := cl.ex
  refine ⟨_, pe_make hM F hr hg hm hb .nil pass0 WA.pa hdb he hpl, ?_⟩
  show WA X (e :: es) σ H fun vs H1 => ∀ x dx, H1 x = none → H1 dx = none → dx ≠ x → sp (.ref x :: (vs ++ [])) (upd (upd H1 dx (.own x)) x (.ins C dx [])) (fun v H2 => v = .non ∧ Q (.ref x) H2) E0
  simp only [List.append_nil]
  exact h
theorem e_prop (cl : CalP X.prog X.w X.K X.mg X.base C m k sp) (hr : Room (k + 1) X.A) (hab : attributeBase e m X.env (eval e X.env) = eval e X.env := by rfl)
    (h : WE X e σ H fun x H1 => ∃ a dx fs, x = .ref a ∧ H1 a = some (.ins C dx fs) ∧ sp [.ref a] H1 Q E0) : WE X (.Attribute e m pos) σ H Q := by
  obtain ⟨p, g, fd, ps, F, hc, hp, hb⟩ := cl.ex
  exact ⟨_, pe_prop WE.pe hc hp F hr hb .nil pass0 hab, h⟩
end

/-! ### what is known, and what grows -/
abbrev M0 : Addr → Prop := fun _ => False
/-- B: objects that nobody changes any more; H: all that is tracked. Those in M may change -/
structure Gr (M : Addr → Prop) (B H B' H' : Hp) : Prop where
  b : Ex B B'
  k : Ex B' H'
  h : ∀ a o, ¬ M a → H a = some o → H' a = some o
  n : ∀ a, H a ≠ none → H' a ≠ none
  f : ∀ a, B a = none → H a ≠ none → B' a = none
section
variable {M : Addr → Prop} {B H B1 H1 B2 H2 : Hp} {p : Addr} {o : HO}
theorem Gr.refl (k : Ex B H) : Gr M B H B H := ⟨.refl B, k, fun _ _ _ h => h, fun _ h => h, fun _ h _ => h⟩
theorem Gr.trans (x : Gr M B H B1 H1) (y : Gr M B1 H1 B2 H2) : Gr M B H B2 H2 :=
  ⟨x.b.trans y.b, y.k, fun a o m h => y.h a o m (x.h a o m h), fun a h => y.n a (x.n a h), fun a h1 h2 => y.f a (x.f a h1 h2) (x.n a h2)⟩
theorem Gr.weak {M' : Addr → Prop} (x : Gr M B H B1 H1) (h : ∀ a, M a → M' a) : Gr M' B H B1 H1 := ⟨x.b, x.k, fun a o m => x.h a o fun z => m (h a z), x.n, x.f⟩
theorem Gr.up (x : Gr M0 B H B1 H1) : Gr M B H B1 H1 := x.weak fun _ z => z.elim
theorem Gr.ex (x : Gr M0 B H B1 H1) : Ex H H1 := fun a o h => x.h a o (fun z => z) h
theorem none_of_ex (k : Ex B H) (h : H p = none) : B p = none := fresh_back k h
theorem Gr.free (x : Gr M B H B1 H1) (h : H1 p = none) : H p = none := by
  cases q : H p with
  | none => rfl
  | some o => exact absurd h (x.n p (by rw [q]; exact fun z => nomatch z))
theorem upd_none {a : Addr} (h : upd H p o a = none) : H a = none := by
  unfold upd at h
  split at h
  · cases h
  · exact h
theorem upd_nn {a : Addr} (h : H a ≠ none) : upd H p o a ≠ none := fun z => h (upd_none z)
/-- a new object, the owner's -/
theorem Gr.own (x : Gr M B H B1 H1) (hp : H1 p = none) : Gr M B H B1 (upd H1 p o) :=
  ⟨x.b, x.k.trans (Ex.new hp), fun a u m h => by rw [upd_ne (ne_of_none (x.h a u m h) hp)]; exact x.h a u m h, fun a h => upd_nn (x.n a h), x.f⟩
/-- a new object that stays -/
theorem Gr.new (x : Gr M B H B1 H1) (hp : H1 p = none) : Gr M B H (upd B1 p o) (upd H1 p o) := by
  have hb := none_of_ex x.k hp
  refine ⟨x.b.trans (Ex.new hb), fun a u h => ?_, (x.own hp).h, (x.own hp).n, fun a h1 h2 => ?_⟩
  · by_cases e : a = p
    · subst e
      rw [upd_same] at h ⊢
      exact h
    · rw [upd_ne e] at h ⊢
      exact x.k a u h
  · have ne : a ≠ p := fun e => x.n a h2 (e ▸ hp)
    rw [upd_ne ne]
    exact x.f a h1 h2
/-- what the owner does not change any more -/
theorem Gr.learn (x : Gr M B H B1 H1) (h0 : H p = none) (hb : B1 p = none) (hp : H1 p = some o) : Gr M B H (upd B1 p o) H1 := by
  refine ⟨x.b.trans (Ex.new hb), fun a u h => ?_, x.h, x.n, fun a h1 h2 => ?_⟩
  · by_cases e : a = p
    · subst e
      rw [upd_same] at h
      cases h
      exact hp
    · rw [upd_ne e] at h
      exact x.k a u h
  · have ne : a ≠ p := fun e => h2 (e ▸ h0)
    rw [upd_ne ne]
    exact x.f a h1 h2
/-- the owner changes its own -/
theorem Gr.mut (x : Gr M B H B1 H1) (h0 : M p ∨ H p = none) (hb : B1 p = none) : Gr M B H B1 (upd H1 p o) := by
  refine ⟨x.b, fun a u h => ?_, fun a u m h => ?_, fun a h => upd_nn (x.n a h), x.f⟩
  · have ne : a ≠ p := fun e => by rw [e, hb] at h; cases h
    rw [upd_ne ne]
    exact x.k a u h
  · have ne : a ≠ p := fun e => by
      subst e
      rcases h0 with z | z
      · exact m z
      · rw [z] at h; cases h
    rw [upd_ne ne]
    exact x.h a u m h
end

/-! ### data -/
class Dat (α : Type) [DecidableEq α] where
  toD : α → PyData
  lay : ∀ a, (toD a).canLay0 = true
  eqv : ∀ a b, PyData.eqv (toD a) (toD b) = decide (a = b)
  dep : Nat
  dep_le : ∀ a, (toD a).depth ≤ dep
theorem beq_dec {α : Type} [BEq α] [LawfulBEq α] [DecidableEq α] (a b : α) : (a == b) = decide (a = b) := by
  rw [Bool.eq_iff_iff, beq_iff_eq, decide_eq_true_eq]
instance : Dat Int where
  toD := .int
  lay _ := rfl
  eqv a b := by simp only [PyData.eqv]; exact beq_dec a b
  dep := 0
  dep_le _ := Nat.le_refl _
instance : Dat Bool where
  toD := .bool
  lay _ := rfl
  eqv a b := by simp only [PyData.eqv]; exact beq_dec a b
  dep := 0
  dep_le _ := Nat.le_refl _
instance : Dat (Option Int) where
  toD
    | .none => .none
    | .some i => .int i
  lay a := by cases a <;> rfl
  eqv a b := by
    cases a <;> cases b <;> simp only [PyData.eqv]
    · rfl
    · rfl
    · rfl
    · rw [beq_dec]
      exact decide_eq_decide.mpr ⟨fun e => by rw [e], fun e => Option.some.inj e⟩
  dep := 0
  dep_le a := by cases a <;> exact Nat.le_refl _
section
variable {α β : Type} [DecidableEq α] [Dat α] [DecidableEq β] [Dat β]
theorem layAll_map : ∀ xs : List α, PyData.canLayAll0 (xs.map Dat.toD) = true
  | [] => rfl
  | x :: xs => by
    rw [List.map_cons, PyData.canLayAll0, Dat.lay x, layAll_map xs]
    rfl
theorem depAll_map : ∀ xs : List α, PyData.depthAll (xs.map Dat.toD) ≤ Dat.dep α
  | [] => Nat.zero_le _
  | x :: xs => by
    rw [List.map_cons, PyData.depthAll]
    exact Nat.max_le.mpr ⟨Dat.dep_le x, depAll_map xs⟩
theorem eqvAll_dat : ∀ xs ys : List α, PyData.eqvAll (xs.map Dat.toD) (ys.map Dat.toD) = decide (xs = ys)
  | [], [] => by simp only [List.map_nil, PyData.eqvAll, decide_true]
  | [], _ :: _ => by simp [PyData.eqvAll]
  | _ :: _, [] => by simp [PyData.eqvAll]
  | x :: xs, y :: ys => by
    rw [List.map_cons, List.map_cons, PyData.eqvAll, Dat.eqv x y, eqvAll_dat xs ys, ← Bool.decide_and]
    exact decide_eq_decide.mpr (by rw [List.cons.injEq])
instance : Dat (List α) where
  toD xs := .list (xs.map Dat.toD)
  lay xs := by simp only [PyData.canLay0]; exact layAll_map xs
  eqv xs ys := by simp only [PyData.eqv]; exact eqvAll_dat xs ys
  dep := Dat.dep α + 1
  dep_le xs := by simp only [PyData.depth]; exact Nat.succ_le_succ (depAll_map xs)
instance : Dat (α × β) where
  toD p := .tuple [Dat.toD p.1, Dat.toD p.2]
  lay p := by simp only [PyData.canLay0, PyData.canLayAll0, Dat.lay, Bool.and_self]
  eqv p q := by
    simp only [PyData.eqv, PyData.eqvAll]
    rw [Dat.eqv, Dat.eqv, Bool.and_true, ← Bool.decide_and]
    exact decide_eq_decide.mpr ⟨fun e => Prod.ext e.1 e.2, fun e => by rw [e]; exact ⟨rfl, rfl⟩⟩
  dep := max (Dat.dep α) (Dat.dep β) + 1
  dep_le p := by
    simp only [PyData.depth, PyData.depthAll]
    exact Nat.succ_le_succ (Nat.max_le.mpr ⟨Nat.le_trans (Dat.dep_le p.1) (Nat.le_max_left _ _), Nat.max_le.mpr ⟨Nat.le_trans (Dat.dep_le p.2) (Nat.le_max_right _ _), Nat.zero_le _⟩⟩)
end
mutual
theorem Dp.mono {K : PySem.W.Frag} {B B' : Hp} (e : Ex B B') : ∀ {v : V} {d : PyData}, Dp K B v d → Dp K B' v d
  | _, _, .non => .non
  | _, _, .bl b => .bl b
  | _, _, .int b => .int b
  | _, _, .str b => .str b
  | _, _, .lst h a => .lst (ex_l e h) (DpAll.mono e a)
  | _, _, .tup h a => .tup (ex_t e h) (DpAll.mono e a)
theorem DpAll.mono {K : PySem.W.Frag} {B B' : Hp} (e : Ex B B') : ∀ {vs : List V} {ds : List PyData}, DpAll K B vs ds → DpAll K B' vs ds
  | _, _, .nil => .nil
  | _, _, .cons h a => .cons (Dp.mono e h) (DpAll.mono e a)
end
/-- v is x, as B tells -/
def Dt {α : Type} [DecidableEq α] [Dat α] (K : PySem.W.Frag) (B : Hp) (v : V) (x : α) : Prop := Dp K B v (Dat.toD x)
def Das {α : Type} [DecidableEq α] [Dat α] (K : PySem.W.Frag) (B : Hp) (vs : List V) (xs : List α) : Prop := DpAll K B vs (xs.map Dat.toD)
section
variable {α β : Type} [DecidableEq α] [Dat α] [DecidableEq β] [Dat β] {K : PySem.W.Frag} {B B' H : Hp} {v w : V} {vs ws : List V}
theorem Dt.mono {x : α} (e : Ex B B') (h : Dt K B v x) : Dt K B' v x := Dp.mono e h
theorem Das.mono {xs : List α} (e : Ex B B') (h : Das K B vs xs) : Das K B' vs xs := DpAll.mono e h
theorem dt_int {i : Int} (h : Dt K B v i) : v = .int i := by
  unfold Dt at h
  cases h
  rfl
theorem dt_bl {i : Bool} (h : Dt K B v i) : v = .bl i := by
  unfold Dt at h
  cases h
  rfl
theorem dt_none (h : Dt K B v (none : Option Int)) : v = .non := by
  unfold Dt at h
  cases h
  rfl
theorem dt_some {i : Int} (h : Dt K B v (some i)) : v = .int i := by
  unfold Dt at h
  cases h
  rfl
theorem dtI (i : Int) : Dt K B (.int i) i := Dp.int i
theorem dtB (i : Bool) : Dt K B (.bl i) i := Dp.bl i
theorem dtN : Dt K B .non (none : Option Int) := Dp.non
theorem dtS (i : Int) : Dt K B (.int i) (some i) := Dp.int i
theorem dt_list {xs : List α} (h : Dt K B v xs) : ∃ a vs, v = .ref a ∧ SqL K B a vs ∧ Das K B vs xs := by
  unfold Dt at h
  cases h with
  | lst h1 h2 => exact ⟨_, _, rfl, h1, h2⟩
theorem dtL {a : Addr} {xs : List α} (h : SqL K B a vs) (hs : Das K B vs xs) : Dt K B (.ref a) xs := Dp.lst h hs
theorem dt_pair {x : α × β} (h : Dt K B v x) : ∃ a y z, v = .ref a ∧ SqT K B a [y, z] ∧ Dt K B y x.1 ∧ Dt K B z x.2 := by
  unfold Dt at h
  cases h with
  | tup h1 h2 =>
    cases h2 with
    | cons a b =>
      cases b with
      | cons c d =>
        cases d
        exact ⟨_, _, _, rfl, h1, a, c⟩
theorem dtP {a : Addr} {y z : V} {p : α} {q : β} (h : SqT K B a [y, z]) (h1 : Dt K B y p) (h2 : Dt K B z q) : Dt K B (.ref a) (p, q) := Dp.tup h (.cons h1 (.cons h2 .nil))
theorem Das.nil : Das K B [] ([] : List α) := DpAll.nil
theorem Das.cons {x : α} {xs : List α} (h : Dt K B v x) (hs : Das K B vs xs) : Das K B (v :: vs) (x :: xs) := DpAll.cons h hs
theorem Das.len : ∀ {vs : List V} {xs : List α}, Das K B vs xs → vs.length = xs.length
  | [], [], _ => rfl
  | [], _ :: _, h => by cases h
  | _ :: _, [], h => by cases h
  | _ :: vs, _ :: xs, h => by
    cases h with
    | cons h hs =>
      rw [List.length_cons, List.length_cons, Das.len (show Das K B vs xs from hs)]
theorem Das.get : ∀ {vs : List V} {xs : List α} {i : Nat} {v : V}, Das K B vs xs → vs[i]? = some v → ∃ x, xs[i]? = some x ∧ Dt K B v x
  | [], _, _, _, _, e => by simp at e
  | _ :: _, [], _, _, h, _ => by cases h
  | u :: vs, x :: xs, 0, v, h, e => by
    cases h with
    | cons h hs =>
      have e' : u = v := by simpa using e
      subst e'
      exact ⟨x, rfl, h⟩
  | u :: vs, x :: xs, i + 1, v, h, e => by
    cases h with
    | cons h hs => exact Das.get (i := i) (show Das K B vs xs from hs) (by simpa using e)
theorem Das.at {xs : List α} {i : Nat} {x : α} (h : Das K B vs xs) (e : xs[i]? = some x) : ∃ v, vs[i]? = some v ∧ Dt K B v x := by
  have hl := h.len
  have hi : i < xs.length := (List.getElem?_eq_some_iff.mp e).1
  have hv : vs[i]? = some (vs[i]'(by omega)) := List.getElem?_eq_getElem (by omega)
  obtain ⟨y, e2, d⟩ := h.get hv
  rw [e] at e2
  cases e2
  exact ⟨_, hv, d⟩
theorem Das.app : ∀ {vs : List V} {xs : List α} {ws : List V} {ys : List α}, Das K B vs xs → Das K B ws ys → Das K B (vs ++ ws) (xs ++ ys)
  | [], [], _, _, _, k => k
  | [], _ :: _, _, _, h, _ => by cases h
  | _ :: _, [], _, _, h, _ => by cases h
  | _ :: vs, _ :: xs, _, _, h, k => by
    cases h with
    | cons h hs => exact .cons h (Das.app (show Das K B vs xs from hs) k)
theorem Das.snoc {x : α} {xs : List α} (hs : Das K B vs xs) (h : Dt K B v x) : Das K B (vs ++ [v]) (xs ++ [x]) := hs.app (.cons h .nil)
theorem das_ints : ∀ {ns : List Int}, Das K B (ns.map V.int) ns
  | [] => .nil
  | n :: ns => .cons (dtI n) das_ints
theorem Das.ints : ∀ {vs : List V} {ns : List Int}, Das K B vs ns → vs = ns.map V.int
  | [], [], _ => rfl
  | [], _ :: _, h => by cases h
  | _ :: _, [], h => by cases h
  | v :: vs, n :: ns, h => by
    cases h with
    | cons h hs =>
      rw [List.map_cons, dt_int (show Dt K B v n from h), Das.ints (show Das K B vs ns from hs)]
/-- == and != of data -/
theorem eq_dat {x y : α} {H : Hp} {Q : VK} (hx : Dt K B v x) (hy : Dt K B w y) (k : Ex B H) (hd : Dat.dep α ≤ 64) (q : Q (.bl (decide (x = y))) H) : rEqD K v w H Q :=
  ⟨_, _, Dp.mono k hx, Dp.mono k hy, by unfold SeqAt.shaped; rw [Dat.lay, Bool.true_and]; exact decide_eq_true (Nat.le_trans (Dat.dep_le x) hd), by unfold SeqAt.shaped; rw [Dat.lay, Bool.true_and]; exact decide_eq_true (Nat.le_trans (Dat.dep_le y) hd), by rw [Dat.eqv]; exact q⟩
theorem ne_dat {x y : α} {H : Hp} {Q : VK} (hx : Dt K B v x) (hy : Dt K B w y) (k : Ex B H) (hd : Dat.dep α ≤ 64) (q : Q (.bl (!decide (x = y))) H) : rNeD K v w H Q :=
  ⟨_, _, Dp.mono k hx, Dp.mono k hy, by unfold SeqAt.shaped; rw [Dat.lay, Bool.true_and]; exact decide_eq_true (Nat.le_trans (Dat.dep_le x) hd), by unfold SeqAt.shaped; rw [Dat.lay, Bool.true_and]; exact decide_eq_true (Nat.le_trans (Dat.dep_le y) hd), by rw [Dat.eqv]; exact q⟩
end
end Lw
namespace Lw
open PySem PySem.Spec L2 Evl

/-! ### comprehensions, with what is known -/
section
variable {J : It} {n : Nat} {G : Hp → Prop} {Y : Nat → Hp → V → Hp → Prop} {M : Addr → Prop} {B H1 : Hp} {g : TG} {tt : TT} {te : TE} {vs : List Nat} {σ : L2.St} {D : Addr} {Qd : Hp → Prop}
theorem lcB (w : Walk J n G Y) (S : Nat → Hp → Hp → List V → Prop) (k : Ex B H1) (hD : H1 D = none) (hM : ¬ M D)
    (h0 : S 0 B H1 []) (hst : ∀ i B' H' acc l, B' D = none → S i B' H' acc → S i B' (upd H' D (.lst l)) acc)
    (hG : ∀ i B' H' acc, i ≤ n → Gr M B H1 B' H' → S i B' H' acc → G H')
    (hs : ∀ i x B' H' H'' acc, i < n → Gr M B H1 B' H' → B' D = none → H' D = some (.lst acc) → S i B' H' acc → Y i H' x H'' →
      ∀ (KT : VK) (KF : Hp → Prop), (∀ y B4 H4, Gr M B' H' B4 H4 → acc.length < sizeLine → S (i + 1) B4 H4 (acc ++ [y]) → KT y H4) → (∀ B3 H3, Gr M B' H' B3 H3 → S (i + 1) B3 H3 acc → KF H3) →
      g x (wipe σ vs) H'' fun σ2 H2 => wipe σ2 vs = wipe σ vs ∧ tt σ2 H2 fun b H3 => if b = true then te σ2 H3 KT else KF H3)
    (hd : ∀ B' H' acc, Gr M B H1 B' H' → B' D = none → H' D = some (.lst acc) → S n B' H' acc → Qd H') : tLcR J g tt te vs σ H1 D Qd := by
  have g0 : Gr M B H1 B (upd H1 D (.lst [])) := (Gr.refl k).own hD
  refine lc_it w (fun i H => ∃ B' acc, Gr M B H1 B' H ∧ B' D = none ∧ H D = some (.lst acc) ∧ S i B' H acc) ⟨B, [], g0, none_of_ex k hD, upd_same, hst _ _ _ _ _ (none_of_ex k hD) h0⟩ (fun i H hi ⟨B', acc, g, _, _, s⟩ => hG i B' H acc hi g s) ?_ (fun H ⟨B', acc, g, b, e, s⟩ => hd B' H acc g b e s)
  rintro i x H H' hi ⟨B', acc, g, b, e, s⟩ y
  refine hs i x B' H H' acc hi g b e s y _ _ (fun y B4 H4 g4 hl s4 => ⟨acc, g4.h _ _ hM e, hl, B4, acc ++ [y], ?_, g4.f _ b (by rw [e]; exact fun z => nomatch z), upd_same, hst _ _ _ _ _ (g4.f _ b (by rw [e]; exact fun z => nomatch z)) s4⟩) fun B3 H3 g3 s3 => ⟨B3, acc, g.trans g3, g3.f _ b (by rw [e]; exact fun z => nomatch z), g3.h _ _ hM e, s3⟩
  exact (g.trans g4).mut (.inr hD) (g4.f _ b (by rw [e]; exact fun z => nomatch z))
/-- a list of data, from the items of xs -/
theorem lcF {K : PySem.W.Frag} {α β : Type} [DecidableEq β] [Dat β] {xs : List α} (f : α → Option β) (w : Walk J xs.length G Y) (k : Ex B H1) (hD : H1 D = none) (hz : xs.length < sizeLine)
    (hG : ∀ B' H', Gr M0 B H1 B' H' → G H')
    (hs : ∀ i a x B' H' H'', xs[i]? = some a → Gr M0 B H1 B' H' → Y i H' x H'' →
      ∀ (KT : VK) (KF : Hp → Prop), (∀ b y B4 H4, f a = some b → Gr M0 B' H' B4 H4 → Dt K B4 y b → KT y H4) → (∀ B3 H3, f a = none → Gr M0 B' H' B3 H3 → KF H3) →
      g x (wipe σ vs) H'' fun σ2 H2 => wipe σ2 vs = wipe σ vs ∧ tt σ2 H2 fun b H3 => if b = true then te σ2 H3 KT else KF H3)
    (hd : ∀ B' H' acc, Gr M0 B H1 B' H' → B' D = none → H' D = some (.lst acc) → Das K B' acc (xs.filterMap f) → Qd H') : tLcR J g tt te vs σ H1 D Qd := by
  refine lcB (M := M0) w (fun i B' _ acc => Das K B' acc ((xs.take i).filterMap f) ∧ acc.length ≤ i) k hD (fun z => z) ⟨by simpa using Das.nil, Nat.le_refl _⟩ (fun _ _ _ _ _ _ s => s) (fun i B' H' acc _ g _ => hG B' H' g) ?_ (fun B' H' acc g b e s => hd B' H' acc g b e (by simpa using s.1))
  intro i x B' H' H'' acc hi g b e s y KT KF kt kf
  have hx : xs[i]? = some xs[i] := List.getElem?_eq_getElem hi
  have e2 : xs.take (i + 1) = xs.take i ++ [xs[i]] := by rw [List.take_add_one, hx]; rfl
  refine hs i xs[i] x B' H' H'' hx g y KT KF (fun b y B4 H4 fb g4 d => kt y B4 H4 g4 (by omega) ⟨?_, by rw [List.length_append, List.length_singleton]; omega⟩) fun B3 H3 fb g3 => kf B3 H3 g3 ⟨?_, by omega⟩
  · rw [e2, List.filterMap_append, List.filterMap_cons, fb]
    exact (s.1.mono g4.b).snoc d
  · rw [e2, List.filterMap_append, List.filterMap_cons, fb]
    simpa using s.1.mono g3.b
end
section
variable {K : PySem.W.Frag} {B H1 : Hp} {g : TG} {tt : TT} {te : TE} {vs : List Nat} {σ : L2.St} {D : Addr} {Qd : Hp → Prop}
/-- over a list of data that stays -/
theorem lcL {α β : Type} [DecidableEq α] [Dat α] [DecidableEq β] [Dat β] {xs : List α} {a : Addr} {ws : List V} (f : α → Option β) (hL : SqL K B a ws) (hA : Das K B ws xs) (k : Ex B H1) (hD : H1 D = none) (hz : xs.length < sizeLine)
    (hs : ∀ (i : Nat) y x B' H', xs[i]? = some y → Dt K B' x y → Gr M0 B H1 B' H' →
      ∀ (KT : VK) (KF : Hp → Prop), (∀ b z B4 H4, f y = some b → Gr M0 B' H' B4 H4 → Dt K B4 z b → KT z H4) → (∀ B3 H3, f y = none → Gr M0 B' H' B3 H3 → KF H3) →
      g x (wipe σ vs) H' fun σ2 H2 => wipe σ2 vs = wipe σ vs ∧ tt σ2 H2 fun b H3 => if b = true then te σ2 H3 KT else KF H3)
    (hd : ∀ B' H' acc, Gr M0 B H1 B' H' → B' D = none → H' D = some (.lst acc) → Das K B' acc (xs.filterMap f) → Qd H') : tLcR (Itl K a) g tt te vs σ H1 D Qd := by
  have wk : Walk (Itl K a) xs.length (fun H => SqL K H a ws) (YAt ws) := by
    rw [← hA.len]
    exact walk_list
  refine lcF (K := K) f wk k hD hz (fun B' H' g => ex_l (g.b.trans g.k) hL) ?_ hd
  rintro i y x B' H' H'' hy g ⟨rfl, hx⟩ KT KF kt kf
  obtain ⟨y', e, d⟩ := hA.get hx
  rw [hy] at e
  cases e
  exact hs i y x B' H'' hy (d.mono g.b) g KT KF kt kf
/-- over a list of ints, whoever owns it -/
theorem lcI {β : Type} [DecidableEq β] [Dat β] {ns : List Int} {a : Addr} (f : Int → Option β) (hL : SqL K H1 a (ns.map V.int)) (k : Ex B H1) (hD : H1 D = none) (hz : ns.length < sizeLine)
    (hs : ∀ (i : Nat) y B' H', ns[i]? = some y → Gr M0 B H1 B' H' →
      ∀ (KT : VK) (KF : Hp → Prop), (∀ b z B4 H4, f y = some b → Gr M0 B' H' B4 H4 → Dt K B4 z b → KT z H4) → (∀ B3 H3, f y = none → Gr M0 B' H' B3 H3 → KF H3) →
      g (.int y) (wipe σ vs) H' fun σ2 H2 => wipe σ2 vs = wipe σ vs ∧ tt σ2 H2 fun b H3 => if b = true then te σ2 H3 KT else KF H3)
    (hd : ∀ B' H' acc, Gr M0 B H1 B' H' → B' D = none → H' D = some (.lst acc) → Das K B' acc (ns.filterMap f) → Qd H') : tLcR (Itl K a) g tt te vs σ H1 D Qd := by
  have wk : Walk (Itl K a) ns.length (fun H => SqL K H a (ns.map V.int)) (YAt (ns.map V.int)) := by
    have e := walk_list (K := K) (a := a) (xs := ns.map V.int)
    rw [List.length_map] at e
    exact e
  refine lcF (K := K) f wk k hD hz (fun B' H' g => ex_l g.ex hL) ?_ hd
  rintro i y x B' H' H'' hy g ⟨rfl, hx⟩ KT KF kt kf
  rw [List.getElem?_map, hy] at hx
  cases hx
  exact hs i y B' H'' hy g KT KF kt kf
/-- over range(n) -/
theorem lcR {β : Type} [DecidableEq β] [Dat β] {n : Nat} (f : Nat → Option β) (k : Ex B H1) (hD : H1 D = none) (hz : n < sizeLine)
    (hs : ∀ i B' H', i < n → Gr M0 B H1 B' H' →
      ∀ (KT : VK) (KF : Hp → Prop), (∀ b z B4 H4, f i = some b → Gr M0 B' H' B4 H4 → Dt K B4 z b → KT z H4) → (∀ B3 H3, f i = none → Gr M0 B' H' B3 H3 → KF H3) →
      g (.int (i : Nat)) (wipe σ vs) H' fun σ2 H2 => wipe σ2 vs = wipe σ vs ∧ tt σ2 H2 fun b H3 => if b = true then te σ2 H3 KT else KF H3)
    (hd : ∀ B' H' acc, Gr M0 B H1 B' H' → B' D = none → H' D = some (.lst acc) → Das K B' acc ((List.range n).filterMap f) → Qd H') : tLcR (Itr 0 n) g tt te vs σ H1 D Qd := by
  have wk : Walk (Itr 0 n) (List.range n).length (fun _ => True) (YFn fun i => .int (0 + i)) := by
    rw [List.length_range]
    exact walk_range
  refine lcF (K := K) f wk k hD (by rw [List.length_range]; exact hz) (fun _ _ _ => trivial) ?_ hd
  rintro i y x B' H' H'' hy gg ⟨rfl, rfl⟩ KT KF kt kf
  have hi : i < n := by
    have := (List.getElem?_eq_some_iff.mp hy).1
    rwa [List.length_range] at this
  rw [List.getElem?_range hi] at hy
  cases hy
  have e : (0 : Int) + (i : Nat) = (i : Nat) := Int.zero_add _
  show g (.int ((0 : Int) + (i : Nat))) _ _ _
  rw [e]
  exact hs i B' H'' hi gg KT KF kt kf
end
theorem Gr.made {B H B' H' : Hp} {x dx : Addr} {o1 o2 : HO} (g : Gr (fun a => a = x) B (upd (upd H dx o1) x o2) B' H') (hx : H x = none) (hd : H dx = none) : Gr M0 B H B' H' := by
  have e0 : Ex H (upd (upd H dx o1) x o2) := (Ex.new hd).mut hx
  refine ⟨g.b, g.k, fun a o _ h => g.h a o (ne_of_none h hx) (e0 a o h), fun a h => g.n a (upd_nn (upd_nn h)), fun a h1 h2 => g.f a h1 (upd_nn (upd_nn h2))⟩
theorem ifd {p A B : Prop} [Decidable p] (h1 : p → A) (h2 : ¬ p → B) : if decide p = true then A else B := by
  by_cases h : p
  · rw [if_pos (decide_eq_true h)]
    exact h1 h
  · rw [if_neg (by rw [decide_eq_true_eq]; exact h)]
    exact h2 h
theorem ifn {p A B : Prop} [Decidable p] (h1 : ¬ p → A) (h2 : p → B) : if (!decide p) = true then A else B := by
  by_cases h : p
  · rw [if_neg (by rw [decide_eq_true h]; decide)]
    exact h2 h
  · rw [if_pos (by rw [decide_eq_false h]; rfl)]
    exact h1 h
theorem ifb {b : Bool} {A B : Prop} (h1 : b = true → A) (h2 : b = false → B) : if b = true then A else B := by
  cases b with
  | true => exact (if_pos rfl).symm ▸ h1 rfl
  | false => rw [if_neg (by decide)]; exact h2 rfl
theorem ift {b : Bool} {A B : Prop} (e : b = true) (h : A) : if b = true then A else B := by rw [if_pos e]; exact h
theorem iff_ {b : Bool} {A B : Prop} (e : b = false) (h : B) : if b = true then A else B := by rw [if_neg (by rw [e]; decide)]; exact h
end Lw
namespace Lw
open PySem PySem.Spec PyProof.Rows L2 Evl
/-! ### len of an instance with its own __len__ -/
section
variable {X : Cx} {k : Nat} {C f : Addr} {fd : FuncData} {ps : List Str} {sp : Sp}
structure CalL (P : Program) (w : World) (K : PySem.W.Frag) (mg : Str → Option Value) (base : Heap) (C : Addr) (k : Nat) (ps : List Str) (sp : Sp) : Prop where
  ex : ∃ f fd, FnOk P w K mg base CX0 k f fd ps sp ∧ PySem.W.findIn K (.ref C) "__len__" = some (some (.ref f)) ∧ PySem.W.isFn K (.ref f) = true ∧ Binds K fd ps []
theorem call_lenOwn (cl : CalL X.prog X.w X.K X.mg X.base C k ps sp) (hr : Room (k + 1) X.A) :
    CallR X (.builtin "len") (fun xs H Q => ∃ a dx fs, xs = [.ref a] ∧ H a = some (.ins C dx fs) ∧ sp [.ref a] H (fun v H' => ∃ n : Int, v = .int n ∧ (0 ≤ n ∧ n < 2 ^ 63) ∧ Q (.int n) H') E0) := by
  obtain ⟨f, fd, F, hs, hf, hb⟩ := cl.ex
  intro pins s σ H xs us Q I r h
  obtain ⟨a, dx, fs, rfl, ea, h⟩ := h
  obtain ⟨u1, rfl, r1⟩ := vals1 r
  cases (show u1 = Value.ref a from r1)
  obtain ⟨mA, O, _⟩ := ins_get I.hok ea
  obtain ⟨od, J, _⟩ := O.look
  obtain ⟨m, hF⟩ := I.fr
  have hl := F.len _ _ _ _ h
  have r2 : Vals [V.ref a] [Value.ref a] := .cons rfl .nil
  refine PySem.W.len_K hF I.ok.mod.kin J hs hf ?_
  refine wpAny_call (codeAny_mono (F.run X.A.in1 X.stack s H ⟨[.ref a], []⟩ [.ref a] [.ref a] _ E0 hr.in1 I.env0.in1 (by
    have := hb s [.ref a] I.kIn (by simpa using hl)
    simpa using this) r2 h) fun rr s' hq => ?_)
  cases rr with
  | error e => exact False.elim (pass0 (X := X.nox) pins σ H s e s' (I.wish _) hq)
  | ok fl =>
    cases fl with
    | ret u =>
      obtain ⟨v, H', I3, rv, n, hv, hn, q⟩ := I.after hq
      subst hv
      obtain ⟨t, rfl⟩ := rv
      exact ⟨hn, ⟨.int n, H', I3.tok _, ⟨_, rfl⟩, q⟩⟩
    | next => exact False.elim hq
    | brk => exact False.elim hq
    | cont => exact False.elim hq
end
end Lw
namespace Lw
open PySem PySem.Spec L2 Evl
/-! ### a list of three ints from which is drawn -/
abbrev dk (x y z : Int) : HO := .lst [.int x, .int y, .int z]
def DeckAt (H : Hp) (d : Addr) : Prop := ∃ x y z, H d = some (dk x y z)
theorem DeckAt.nn {H : Hp} {d : Addr} (h : DeckAt H d) : H d ≠ none := by
  obtain ⟨x, y, z, e⟩ := h
  rw [e]
  exact fun z => nomatch z
theorem DeckAt.upd {H : Hp} {d D : Addr} {o : HO} (h : DeckAt H d) (n : d ≠ D) : DeckAt (upd H D o) d := by
  obtain ⟨x, y, z, e⟩ := h
  exact ⟨x, y, z, by rw [upd_ne n]; exact e⟩
theorem DeckAt.ne {H : Hp} {d D : Addr} (h : DeckAt H d) (n : H D = none) : d ≠ D := fun e => h.nn (e ▸ n)
theorem DeckAt.new {H : Hp} {d D : Addr} {o : HO} (h : DeckAt H d) (n : H D = none) : DeckAt (L2.upd H D o) d := h.upd (h.ne n)
theorem DeckAt.ex {H H' : Hp} {d : Addr} (h : DeckAt H d) (e : Ex H H') : DeckAt H' d := by
  obtain ⟨x, y, z, q⟩ := h
  exact ⟨x, y, z, e _ _ q⟩
theorem DeckAt.gr {B H B' H' : Hp} {d : Addr} (h : DeckAt H d) (g : Gr M0 B H B' H') : DeckAt H' d := h.ex g.ex
abbrev Md (d : Addr) : Addr → Prop := fun a => a = d
theorem Gr.deck {B H B' H' : Hp} {d : Addr} {x y z : Int} (g : Gr (Md d) B H B' H') (hb : B' d = none) : Gr (Md d) B H B' (upd H' d (dk x y z)) := g.mut (.inl rfl) hb
theorem Gr.bd {M : Addr → Prop} {B H B' H' : Hp} {d : Addr} (g : Gr M B H B' H') (hb : B d = none) (hd : H d ≠ none) : B' d = none := g.f d hb hd
/-- a deck and what is known beside it -/
structure Dk (B H : Hp) (d : Addr) : Prop where
  k : Ex B H
  b : B d = none
  at_ : DeckAt H d
theorem Dk.gr {B H B' H' : Hp} {d : Addr} (h : Dk B H d) (g : Gr M0 B H B' H') : Dk B' H' d := ⟨g.k, g.f d h.b h.at_.nn, h.at_.gr g⟩
theorem Dk.go {B H B' H' : Hp} {d : Addr} (h : Dk B H d) (g : Gr (Md d) B H B' H') (a : DeckAt H' d) : Dk B' H' d := ⟨g.k, g.f d h.b h.at_.nn, a⟩
theorem Dk.own {B H : Hp} {d p : Addr} {o : HO} (k : Dk B H d) (hp : H p = none) : Dk B (upd H p o) d := k.gr ((Gr.refl k.k).own hp)
theorem Dk.new {B H : Hp} {d p : Addr} {o : HO} (k : Dk B H d) (hp : H p = none) : Dk (L2.upd B p o) (L2.upd H p o) d := k.gr ((Gr.refl k.k).new hp)
section
variable {J : It} {n : Nat} {G : Hp → Prop} {Y : Nat → Hp → V → Hp → Prop} {B H1 : Hp} {g : TG} {tt : TT} {te : TE} {vs : List Nat} {σ : L2.St} {D d : Addr} {Qd : Hp → Prop}
/-- ints that are drawn -/
theorem lcInts (w : Walk J n G Y) (P : Int → Prop) (k : Dk B H1 d) (hD : H1 D = none) (hn : n < sizeLine)
    (hG : ∀ B' H', Gr (Md d) B H1 B' H' → Dk B' H' d → G H')
    (hs : ∀ i x B' H' H'', i < n → Gr (Md d) B H1 B' H' → Dk B' H' d → Y i H' x H'' → ∀ (KT : VK) (KF : Hp → Prop), (∀ z B4 H4, Gr (Md d) B' H' B4 H4 → Dk B4 H4 d → P z → KT (.int z) H4) →
      g x (wipe σ vs) H'' fun σ2 H2 => wipe σ2 vs = wipe σ vs ∧ tt σ2 H2 fun b H3 => if b = true then te σ2 H3 KT else KF H3)
    (hd : ∀ B' H' (ns : List Int), Gr (Md d) B H1 B' H' → Dk B' H' d → B' D = none → H' D = some (.lst (ns.map V.int)) → ns.length = n → (∀ z ∈ ns, P z) → Qd H') : tLcR J g tt te vs σ H1 D Qd := by
  have hdD : d ≠ D := k.at_.ne hD
  refine lcB (M := Md d) w (fun i B' H' acc => Dk B' H' d ∧ ∃ ns : List Int, acc = ns.map V.int ∧ ns.length = i ∧ ∀ z ∈ ns, P z) k.k hD (fun z => hdD z.symm) ⟨k, [], rfl, rfl, fun z hz => nomatch hz⟩ (fun i B' H' acc l hb ⟨⟨k1, k2, k3⟩, s⟩ => ⟨⟨fun a u e => by rw [upd_ne (ne_of_none e hb)]; exact k1 a u e, k2, k3.upd hdD⟩, s⟩) (fun i B' H' acc _ g s => hG B' H' g s.1) ?_ ?_
  · intro i x B' H' H'' acc hi g b e s y KT KF kt kf
    obtain ⟨dk', ns, rfl, hl, hp⟩ := s
    refine hs i x B' H' H'' hi g dk' y KT KF fun z B4 H4 g4 d4 pz => kt _ B4 H4 g4 (by rw [List.length_map]; omega) ⟨d4, ns ++ [z], by rw [List.map_append]; rfl, by rw [List.length_append, hl]; rfl, fun q hq => ?_⟩
    rcases List.mem_append.mp hq with h | h
    · exact hp q h
    · rw [List.mem_singleton.mp h]; exact pz
  · intro B' H' acc g b e s
    obtain ⟨dk', ns, rfl, hl, hp⟩ := s
    exact hd B' H' ns g dk' b e hl hp
end
section
variable {X : Cx} {σ : L2.St} {H : Hp} {Q : VK} {e o : Expr} {pos ap : Pos}
/-- a built-in type's method -/
theorem e_bm {T : String} {name : Str} {id : String} {r : V → List V → Hp → VK → Prop} {es : List Expr} (pa : PySem.PlainAttrs T) (slot : PySem.Slot T name id) (hty : typeOf (.builtin id) = pure (.type "method_descriptor")) (hm : MtR X id r)
    (h : WE X o σ H fun x H1 => tyV X.K T x H1 ∧ WA X (e :: es) σ H1 fun vs H2 => r x vs H2 Q) (hbase : attributeBase o name X.env (eval o X.env) = eval o X.env := by rfl)
    (hfew : ((backTo pos (starEach (e :: es) X.env)).all (fun x => !x.1) && (backToKw pos (keywordEach [] X.env)).all (fun x => x.1.isSome)
      && decide ((e :: es).length + ([] : List Keyword).length + (if ([] : List Keyword).isEmpty then 0 else 1) < 30)) = true := by rfl)
    (hline : (ap.endLine == pos.line) = true := by rfl) (hs : starEach (e :: es) X.env = (false, eval e X.env) :: starEach es X.env := by rfl) (hplain : (backTo pos (starEach es X.env)).any (·.1) = false := by rfl) : WE X (.Call (.Attribute o name ap) (e :: es) [] pos) σ H Q :=
  ⟨_, pe_bm pa slot hty hm WE.pe WA.pa hbase hfew hline hs hplain, h⟩
end
/-- what holds behind a statement, on all its ways -/
theorem s_join {X : Cx} {st : Stmt} {D : Ends} {σ : L2.St} {H : Hp} (P : L2.St → Hp → Prop) (h1 : WS X st { D with nx := P } σ H) (h2 : ∀ σ H, P σ H → D.nx σ H) : WS X st D σ H := by
  refine ⟨fun D σ H => ∃ P, WS X st { D with nx := P } σ H ∧ ∀ σ H, P σ H → D.nx σ H, ⟨fun pins s σ H D I h => ?_⟩, P, h1, h2⟩
  obtain ⟨P, h1, h2⟩ := h
  refine thn (WS.ps.run pins s σ H _ I h1) fun f s' q => ?_
  cases f with
  | next => obtain ⟨σ', H', I', q⟩ := q; exact ⟨σ', H', I', h2 _ _ q⟩
  | brk => exact q
  | cont => exact q
  | ret u => exact q
theorem walk_r0 {n : Nat} : Walk (Itr 0 n) n (fun _ => True) (fun i H x H' => H' = H ∧ x = .int (i : Nat)) :=
  (walk_range (lo := 0)).mono (fun _ h => h) fun i H x H' _ _ y => ⟨y.1, by rw [y.2]; show V.int (0 + (i : Nat)) = _; rw [Int.zero_add]⟩
end Lw
namespace Lw
open PySem PySem.W PySem.Calls PyProof.Rows Builtin
section
variable {prog : Program} {w : World} {A : Around} {E : Value → Shared → Prop} {s : Shared} {K : Frag} {x y C f : Addr} {ox oy : Obj} {od oe : Option Obj}
theorem ifBound_B {M : Model} {id : String} {name : Str} {args : List Value} {Q : Option Value → Shared → Prop} (X : K.In s.heap) (I : InstAt s.heap x ox C od) (hs : findIn K (.ref C) name = some (some (.builtin id)))
    (hb : ∀ self, bindSpecial (.builtin id) self = pure (.builtin id, [self])) (h : wpAny M A (call (.builtin id) (.ref x :: args)) (fun v => Q (some v)) E s) : wpAny M A (callSpecialIfBound? (.ref x) name args) Q E s := by
  simp only [callSpecialIfBound?, bindSpecialIfBound?]
  refine wpAny_holding (wpAny_bind (wpAny_bind (wpAny_bind (I.type.here ((looks_findIn X hs).here ?_)))))
  simp only [hb]
  refine wpAny_bind (wpAny_askSetting (wpAny_ite ?_))
  have fin : wpAny M A (call (.builtin id) ([.ref x] ++ args) >>= fun v => pure (some v)) Q E s := wpAny_bind (wpAny_mono h (fun v s' h' => wpAny_pure h') fun _ _ h' => h')
  split
  · exact wpAny_bind (wpAny_pure (wpAny_pure fin))
  · exact wpAny_tryCatch (wpAny_bind (wpAny_pure (wpAny_pure fin)))
theorem ne_own {Q : Value → Shared → Prop} (hu : A.units < cLine) (hu1 : A.in1.units < cLine) (X : K.In s.heap) (I : InstAt s.heap x ox C od) (J : InstAt s.heap y oy C oe)
    (hn : findIn K (.ref C) (cmpInfo .NotEq).2.1 = some (some (.builtin "object.__ne__"))) (hm : mroIn K C (.type "object") = some true) (he : findIn K (.ref C) "__eq__" = some (some (.ref f))) (hf : isFn K (.ref f) = true)
    (h : wpAny (model prog w) A.in1 (call (.ref f) [.ref x, .ref y]) (fun v s' => ∃ b, v = .bool b ∧ Q (.bool (!b)) s') E s) : wpAny (model prog w) A (richCompare .NotEq (.ref x) (.ref y)) Q E s := by
  have one : wpAny (model prog w) A (tryCompare (.ref x) (cmpInfo .NotEq).2.1 (.ref y)) (fun r s' => ∃ v, r = some v ∧ Q v s') E s := by
    unfold tryCompare
    refine wpAny_bind (ifBound_B X I hn PySem.F.slot_object_ne.bind ?_)
    refine wpAny_call (codeAny_call_builtin PySem.F.slot_object_ne.plain PySem.F.entry_object_ne (check_slot (i := "object.__ne__") (owner := "object") (n := "__ne__") (by decide +kernel) (by decide +kernel) (I.type.andThen (looks_mroIn X hm)) (PySem.F.args_object_ne_2 _ _) ?_))
    unfold Builtin.«object.__ne__»
    refine wpAny_bind (m := slotArgs "__ne__" 1 _) (wpAny_pure ?_)
    refine wpAny_bind (m := cRoomFor _ _) (wpAny_cRoomFor hu1 ?_)
    refine wpAny_bind (m := callSpecialIfBound? (.ref x) (Str.ofString "__eq__") _) (ifBound_K X I he hf (wpAny_mono h (fun r s' hr => ?_) fun _ _ e => e))
    obtain ⟨b, rfl, hq⟩ := hr
    refine wpAny_bind (m := truthy (.bool b)) (wpAny_truthy_bool ?_)
    exact wpAny_pure (wpAny_pure ⟨_, rfl, hq⟩)
  unfold richCompare
  simp only [oneThing_ref]
  refine wpAny_holding (wpAny_bind (wpAny_cRoomFor hu ?_))
  refine wpAny_bind (I.type.here (wpAny_bind (J.type.here ?_)))
  rw [show (Value.ref C != Value.ref C) = false from by simp]
  simp only [Bool.false_eq_true, if_false]
  refine wpAny_bind (wpAny_pure ?_)
  simp only [Bool.false_eq_true, if_false]
  refine wpAny_bind (wpAny_mono one (fun r s' z => ?_) fun _ _ e => e)
  obtain ⟨v, rfl, hq⟩ := z
  exact wpAny_pure hq
end
end Lw
namespace Lw
open PySem PySem.Spec L2 Evl
/-- the text's own == -/
structure CalE (P : Program) (w : World) (K : PySem.W.Frag) (mg : Str → Option Value) (base : Heap) (C : Addr) (k : Nat) (ps : List Str) (sp : Sp) : Prop where
  ex : ∃ f fd, FnOk P w K mg base CX0 k f fd ps sp ∧ PySem.W.findIn K (.ref C) "__eq__" = some (some (.ref f)) ∧ PySem.W.isFn K (.ref f) = true ∧ Binds K fd ps []
  ne : PySem.W.findIn K (.ref C) (cmpInfo .NotEq).2.1 = some (some (.builtin "object.__ne__"))
  mro : PySem.W.mroIn K C (.type "object") = some true
section
variable {X : Cx} {k : Nat} {C f : Addr} {fd : FuncData} {ps : List Str} {sp : Sp}
def rOwn (C : Addr) (sp : Sp) (g : Bool → Bool) : R2 := fun x y H Q => ∃ a b dx dy fs gs, x = .ref a ∧ y = .ref b ∧ H a = some (.ins C dx fs) ∧ H b = some (.ins C dy gs) ∧ sp [.ref a, .ref b] H (fun v H' => ∃ k, v = .bl k ∧ Q (.bl (g k)) H') E0
theorem op_neOwn (cl : CalE X.prog X.w X.K X.mg X.base C k ps sp) (hr : Room (k + 1) X.A) : OpR X (compareOp .NotEq) (rOwn C sp fun k => !k) := by
  obtain ⟨f, fd, F, hs, hf, hb⟩ := cl.ex
  intro pins s σ H x y u v Q I rx ry h
  obtain ⟨a, b, dx, dy, fs, gs, rfl, rfl, ea, eb, h⟩ := h
  cases (show u = Value.ref a from rx)
  cases (show v = Value.ref b from ry)
  obtain ⟨mA, O, _⟩ := ins_get I.hok ea
  obtain ⟨od, J, _⟩ := O.look
  obtain ⟨mB, O', _⟩ := ins_get I.hok eb
  obtain ⟨od', J', _⟩ := O'.look
  have hl := F.len _ _ _ _ h
  have r2 : Vals [V.ref a, V.ref b] [Value.ref a, Value.ref b] := .cons rfl (.cons rfl .nil)
  refine PySem.W.cmp_ofNotEq (ne_own hr.units0 hr.in1.units0 I.kIn J J' cl.ne cl.mro hs hf ?_)
  refine wpAny_call (codeAny_mono (F.run X.A.in1 X.stack s H ⟨[.ref a, .ref b], []⟩ [.ref a, .ref b] [.ref a, .ref b] _ E0 hr.in1 I.env0.in1 (by
    have := hb s [.ref a, .ref b] I.kIn (by simpa using hl)
    simpa using this) r2 h) fun rr s' hq => ?_)
  cases rr with
  | error e => exact False.elim (pass0 (X := X.nox) pins σ H s e s' (I.wish _) hq)
  | ok fl =>
    cases fl with
    | ret u =>
      obtain ⟨v, H', I3, rv, n, hv, q⟩ := I.after hq
      subst hv
      cases rv
      exact ⟨n, rfl, ⟨.bl (!n), H', I3, rfl, q⟩⟩
    | next => exact False.elim hq
    | brk => exact False.elim hq
    | cont => exact False.elim hq
theorem op_eqOwn (cl : CalE X.prog X.w X.K X.mg X.base C k ps sp) (hr : Room k X.A) : OpR X (compareOp .Eq) (rOwn C sp fun k => k) := by
  obtain ⟨f, fd, F, hs, hf, hb⟩ := cl.ex
  intro pins s σ H x y u v Q I rx ry h
  obtain ⟨a, b, dx, dy, fs, gs, rfl, rfl, ea, eb, h⟩ := h
  cases (show u = Value.ref a from rx)
  cases (show v = Value.ref b from ry)
  obtain ⟨mA, O, _⟩ := ins_get I.hok ea
  obtain ⟨od, J, _⟩ := O.look
  obtain ⟨mB, O', _⟩ := ins_get I.hok eb
  obtain ⟨od', J', _⟩ := O'.look
  obtain ⟨m, hF⟩ := I.fr
  have hl := F.len _ _ _ _ h
  have r2 : Vals [V.ref a, V.ref b] [Value.ref a, Value.ref b] := .cons rfl (.cons rfl .nil)
  show wpAny _ _ (richCompare .Eq (.ref a) (.ref b)) _ _ _
  refine PySem.W.cmp_K (op := .Eq) (tb := .ref C) hr.units0 hF I.ok.mod.kin J J'.type (by simp [PySem.W.notFirst]) hs hf ?_
  refine wpAny_call (codeAny_mono (F.run X.A X.stack s H ⟨[.ref a, .ref b], []⟩ [.ref a, .ref b] [.ref a, .ref b] _ E0 hr I.env0 (by
    have := hb s [.ref a, .ref b] I.kIn (by simpa using hl)
    simpa using this) r2 h) fun rr s' hq => ?_)
  cases rr with
  | error e => exact False.elim (pass0 (X := X.nox) pins σ H s e s' (I.wish _) hq)
  | ok fl =>
    cases fl with
    | ret u =>
      obtain ⟨v, H', I3, rv, n, hv, q⟩ := I.after hq
      subst hv
      cases rv
      exact ⟨.bl n, H', I3, rfl, q⟩
    | next => exact False.elim hq
    | brk => exact False.elim hq
    | cont => exact False.elim hq
end
section
variable {M : Addr → Prop} {B H B1 H1 B' H' : Hp}
/-- knowing less at the start, nothing at the end -/
theorem Gr.base (x : Gr M B1 H B' H') (e : Ex B B1) : Gr M B H B H' := ⟨.refl B, (e.trans x.b).trans x.k, x.h, x.n, fun _ h _ => h⟩
theorem Gr.fresh {d G : Addr} {B2 H2 : Hp} (x : Gr (Md d) B H B1 H1) (y : Gr (Md G) B1 H1 B2 H2) (hG : H G = none) : Gr (Md d) B H B2 H2 :=
  ⟨x.b.trans y.b, y.k, fun a o m h => y.h a o (fun e => by rw [e, hG] at h; cases h) (x.h a o m h), fun a h => y.n a (x.n a h), fun a h1 h2 => y.f a (x.f a h1 h2) (x.n a h2)⟩
theorem ex_put {G : Addr} {o : HO} (k : Ex B H) (e : H G = some o) : Ex (upd B G o) H := fun a u h => by
  by_cases z : a = G
  · subst z
    rw [upd_same] at h
    rw [e, h]
  · rw [upd_ne z] at h
    exact k a u h
end
section
variable {X : Cx} {σ : L2.St} {H : Hp} {Q : VK} {e o a : Expr} {pos p2 p3 ap pos2 : Pos}
/-- a built-in type's method without arguments -/
theorem e_bm0 {T : String} {name : Str} {id : String} {r : V → List V → Hp → VK → Prop} (pa : PySem.PlainAttrs T) (slot : PySem.Slot T name id) (hty : typeOf (.builtin id) = pure (.type "method_descriptor")) (hm : MtR X id r)
    (h : WE X o σ H fun x H1 => tyV X.K T x H1 ∧ r x [] H1 Q) (hbase : attributeBase o name X.env (eval o X.env) = eval o X.env := by rfl) (hline : (ap.endLine == pos.line) = true := by rfl) : WE X (.Call (.Attribute o name ap) [] [] pos) σ H Q :=
  ⟨_, pe_bm0 pa slot hty hm WE.pe hbase hline, h⟩
/-- list(range(n)) -/
theorem e_listRg (hml : X.mg "list" = none) (hmr : X.mg "range" = none) (hc : X.calm = true := by rfl) (hg : Gl X "list" := by rfl) (hg2 : Gl X "range" := by rfl)
    (na : starEach [a] X.env = (false, eval a X.env) :: starEach [] X.env := by rfl) (na2 : starEach [.Call (.Name "range" p3) [a] [] pos2] X.env = (false, eval (.Call (.Name "range" p3) [a] [] pos2) X.env) :: starEach [] X.env := by rfl)
    (h : WE X a σ H fun x H1 => ∃ n, x = .int n ∧ RgOk 0 n ∧ ∀ q, H1 q = none → Q (.ref q) (upd H1 q (.lst (rgV 0 n)))) : WE X (.Call (.Name "list" p2) [.Call (.Name "range" p3) [a] [] pos2] [] pos) σ H Q :=
  ⟨_, pe_listRg hc hg hml (prg_1 hg2 hmr WE.pe na) na2, h⟩
end
/-- the parameters' order -/
def perm2 {α : Type} : List α → List α
  | [x, y] => [y, x]
  | l => l
def perm3 {α : Type} : List α → List α
  | [x, y, z] => [z, y, x]
  | l => l
theorem vals_perm2 {vs : List V} {us : List Value} (r : Vals vs us) : Vals (perm2 vs) (perm2 us) :=
  match r with
  | .nil => .nil
  | .cons a .nil => .cons a .nil
  | .cons a (.cons b .nil) => .cons b (.cons a .nil)
  | .cons a (.cons b (.cons c d)) => .cons a (.cons b (.cons c d))
theorem vals_perm3 {vs : List V} {us : List Value} (r : Vals vs us) : Vals (perm3 vs) (perm3 us) :=
  match r with
  | .nil => .nil
  | .cons a .nil => .cons a .nil
  | .cons a (.cons b .nil) => .cons a (.cons b .nil)
  | .cons a (.cons b (.cons c .nil)) => .cons c (.cons b (.cons a .nil))
  | .cons a (.cons b (.cons c (.cons d e))) => .cons a (.cons b (.cons c (.cons d e)))
end Lw
namespace PySem
open Sem (wp)
theorem tree_kw {prog : Program} {w : World} {A : Around} {E : Value → Shared → Prop} {s : Shared} {id : String} {b : Builtin} {args : List Value} {kw : List (Str × Value)} {Q : Value → Shared → Prop} (hk : builtinKind id = none) (hp : plainId id = true)
    (hb : entryFor table id = some b) (ha : argsOk id ⟨args, kw⟩)
    (hc : wpAny (model prog w) A.in1 (b ⟨args, kw⟩) (fun fin s' => match fin with
      | .done f => (match (Except.ok f : Result) with | .ok (.ret v) => Q v s' | .ok _ => False | .error e => E e s')
      | .again c' => c'.quiet = true ∧ codeAny (model prog w) A c' (fun r s' => match r with | .ok (.ret v) => Q v s' | .ok _ => False | .error e => E e s') s') E s) : wpAny (model prog w) A (call (.builtin id) args kw) Q E s := by
  refine wpAny_call (codeAny_call_builtin hp hb ?_)
  simp only [checkBuiltinCall, hk]
  cases hsig : Manifest.signature? id with
  | none => exact wpAny_pure hc
  | some sig =>
    have ha' : Bind.checkArgs id sig ⟨args, kw⟩ = pure () := by simpa only [argsOk, hsig] using ha
    simp only [ha']
    exact wpAny_pure hc

section
variable {prog : Program} {w : World} {A : Around} {R : Result → Shared → Prop} {I : Addr} {fp wr : List Addr} {n : Nat} {P : Nat → Value → Prop} {St : Nat → Heap → Prop}
theorem best_max (d : Value) (W : Walks prog w A.in1 I fp wr n P St) (bt : Nat → Nat → Bool) (hcmp : CmpOf prog w A.in1 .Gt P bt) (S : Addr) (hSf : S ∉ fp) :
    ∀ (k j : Nat) (s : Shared) (its : Array Value) (c : Nat), n - j = k → j ≤ n → St j s.heap →
    ((j = 0 ∧ its = #[]) ∨ ∃ vb, its = #[vb, vb] ∧ 0 < j ∧ P (argBest bt (j - 1)) vb) →
    s.heap.get? S = some { cls := .type "list", dict := none, data := .seq its c, slots := #[] } →
    (∀ v h' tk, (n = 0 ∧ v = d ∨ 0 < n ∧ P (argBest bt (n - 1)) v) → (∀ b o, b ∉ wr → b ≠ S → s.heap.get? b = some o → h'.get? b = some o) → R (.ok (.ret v)) { s with heap := h', toks := tk }) →
    codeAny (model prog w) A (.builtin "max.loop" ⟨[.ref I, .none, .ref S], [("default", d)]⟩) R s := by
  have hSw : S ∉ wr := fun h => hSf (W.sub _ h)
  have hn : (toString "max" ++ toString ".loop" : String) = "max.loop" := by decide
  intro k
  induction k with
  | zero =>
    intro j s its c hk hj hst hi hS hR
    have hin : j = n := by omega
    subst hin
    refine codeAny_builtin F.entry_max_loop ?_
    rw [Around.under_plainId F.plain_max_loop _]
    show wpAny _ A.in1 (seqItems? (.ref S) >>= _) _ _ s
    refine wpAny_bind (wpAny_seqItems hS rfl ?_)
    show wpAny _ A.in1 (tryCatch (pyNext (.ref I)) _ >>= _) _ _ s
    refine wpAny_bind (wpAny_tryCatch (W.done s _ _ hst fun h' tk hk' => ?_))
    rcases hi with ⟨e0, rfl⟩ | ⟨vb, rfl, h0, hP⟩
    · refine wpAny_bind (wpAny_rule ?_)
      exact wpAny_pure (hR d _ tk (.inl ⟨e0, rfl⟩) fun b o hbw _ e => hk' b o hbw e)
    · have hS' := hk' S _ hSw hS
      show wpAny _ A.in1 (updateSeq S (fun _ => #[]) >>= _) _ _ _
      refine wpAny_bind ?_
      refine wpAny_updateSeq hS' rfl (wpAny_bind (wpAny_letGo (wpAny_pure ?_)))
      exact hR vb _ tk (.inr ⟨h0, hP⟩) fun b o hbw hbS e => (Heap.get?_update_other _ _ (Ne.symm hbS)).trans (hk' b o hbw e)
  | succ k ih =>
    intro j s its c hk hj hst hi hS hR
    have hlt : j < n := by omega
    have go : ∀ {h' : Heap} {tk} {v : Value} (c' : Nat), (∀ b o, b ∉ wr → b ≠ S → s.heap.get? b = some o → h'.get? b = some o) → St (j + 1) h' → P (argBest bt j) v → h'.get? S = some { cls := .type "list", dict := none, data := .seq #[v, v] c', slots := #[] } →
        codeAny (model prog w) A (.builtin "max.loop" ⟨[.ref I, .none, .ref S], [("default", d)]⟩) R { s with heap := h', toks := tk } := fun c' kp st hv hS' =>
      ih (j + 1) _ #[_, _] c' (by omega) hlt st (.inr ⟨_, rfl, Nat.succ_pos _, hv⟩) hS' fun v' h'' tk'' hP' hk'' => hR v' h'' tk'' hP' fun b o hbw hbS e => hk'' b o hbw hbS (kp b o hbw hbS e)
    refine codeAny_builtin F.entry_max_loop ?_
    rw [Around.under_plainId F.plain_max_loop _]
    show wpAny _ A.in1 (seqItems? (.ref S) >>= _) _ _ s
    refine wpAny_bind (wpAny_seqItems hS rfl ?_)
    show wpAny _ A.in1 (tryCatch (pyNext (.ref I)) _ >>= _) _ _ s
    refine wpAny_bind (wpAny_tryCatch (W.item j s _ _ hlt hst fun v h' tk hP hst' hk' => ?_))
    have hS' := hk' S _ hSw hS
    rcases hi with ⟨e0, rfl⟩ | ⟨vb, rfl, h0, hPb⟩
    · subst e0
      show wpAny _ A.in1 (updateSeq S (fun _ => #[v, v]) >>= _) _ _ _
      refine wpAny_bind ?_
      refine wpAny_updateSeq hS' rfl ?_
      rw [hn]
      refine wpAny_pure ⟨plainId_quiet F.plain_max_loop _, go _ (fun b o hbw hbS e => (Heap.get?_update_other _ _ (Ne.symm hbS)).trans (hk' b o hbw e)) (W.frame _ _ _ hst' fun b hbf o e => ?_) hP (Heap.get?_update_self _ hS' rfl)⟩
      exact (Heap.get?_update_other _ _ (fun h : S = b => hSf (by rw [h]; exact hbf))).trans e
    · obtain ⟨i, rfl⟩ : ∃ i, j = i + 1 := ⟨j - 1, by omega⟩
      show wpAny _ A.in1 (tryCatch (holding [v, v] (richCompare .Gt v vb >>= _)) _ >>= _) _ _ _
      refine wpAny_bind (wpAny_tryCatch (wpAny_holding (wpAny_bind (hcmp (i + 1) (argBest bt i) v vb _ _ _ hP hPb ?_))))
      refine wpAny_bind (wpAny_holding (wpAny_truthy_bool ?_))
      refine wpAny_bind (wpAny_letGo (wpAny_pure ?_))
      cases hb : bt (i + 1) (argBest bt i) with
      | true =>
        simp only [if_true]
        refine wpAny_bind ?_
        refine wpAny_updateSeq hS' rfl (wpAny_bind (wpAny_letGo ?_))
        rw [hn]
        refine wpAny_pure ⟨plainId_quiet F.plain_max_loop _, go _ (fun b o hbw hbS e => (Heap.get?_update_other _ _ (Ne.symm hbS)).trans (hk' b o hbw e)) (W.frame _ _ _ hst' fun b hbf o e => ?_) (by simp only [argBest, hb, if_true]; exact hP) (Heap.get?_update_self _ hS' rfl)⟩
        exact (Heap.get?_update_other _ _ (fun h : S = b => hSf (by rw [h]; exact hbf))).trans e
      | false =>
        simp only [Bool.false_eq_true, if_false]
        refine wpAny_bind (wpAny_letGo ?_)
        rw [hn]
        exact wpAny_pure ⟨plainId_quiet F.plain_max_loop _, go c (fun b o hbw _ e => hk' b o hbw e) hst' (by simp only [argBest, hb, Bool.false_eq_true, if_false]; exact hPb) hS'⟩
theorem args_maxD (a d : Value) : argsOk "max" ⟨[a], [("default", d)]⟩ := by unfold argsOk; kernel_rfl
end
section
variable {prog : Program} {w : World} {A : Around} {E : Value → Shared → Prop} {s : Shared} {l : Addr} {xs : Array (Int × Tok)}
theorem max_default {Q : Value → Shared → Prop} (d : Value) (hh : A.handled = none) (hl : s.heap.IsList l (intItems xs))
    (h : ∀ v h' tk, (xs.size = 0 ∧ v = d ∨ 0 < xs.size ∧ (intItems xs)[argBest (fun i j => decide (numAt xs i > numAt xs j)) (xs.size - 1)]? = some v) → (∀ b o, s.heap.get? b = some o → h'.get? b = some o) → Q v { s with heap := h', toks := tk }) :
    wpAny (model prog w) A (call (.builtin "max") [.ref l] [("default", d)]) Q E s := by
  have hn : (toString "max" ++ toString ".loop" : String) = "max.loop" := by decide
  refine tree_kw F.kind_max F.plain_max F.entry_max (args_maxD _ _) ?_
  show wpAny _ A.in1 (Builtin.Builtins.bindParams "max" ["key", "default"] 0 ⟨[], [("default", d)]⟩ >>= _) _ _ s
  refine wpAny_bind (wpAny_of_eq (show Builtin.Builtins.bindParams "max" ["key", "default"] 0 ⟨[], [("default", d)]⟩ = pure [none, some d] from rfl) ?_)
  refine wpAny_bind (wpAny_pure ?_)
  refine wpAny_bind (iter_intList hl fun s₂ e st hfp hlI => ?_)
  subst e
  refine wpAny_bind (wpAny_newObj_type ?_)
  have W := Walks.list (prog := prog) (w := w) (A := A.in1) hh _ l hlI (intItems xs)
  rw [hn]
  refine wpAny_pure ⟨plainId_quiet F.plain_max_loop _, best_max d W _ (CmpOf.ints_gt (numAt xs) (fun _ _ => intItems_at)) _ (fun hm => Nat.lt_irrefl _ (hfp _ hm)) _ 0 _ #[] _ rfl (Nat.zero_le _) (W.frame _ _ _ st fun b _ o e => Heap.get?_push_of_some _ e) (.inl ⟨rfl, rfl⟩) (Heap.get?_push_size _ rfl) fun v h' tk hP hk => ?_⟩
  have hz : (intItems xs).size = xs.size := by simp [intItems]
  rw [hz] at hP
  refine h v h' tk hP fun b o e => ?_
  have hb := Heap.lt_size e
  refine hk b o (fun hm => ?_) (Nat.ne_of_lt (by rw [Heap.size_push]; exact Nat.lt_succ_of_lt hb)) (Heap.get?_push_of_some _ (Heap.get?_push_of_some _ e))
  rcases List.mem_cons.mp hm with e1 | hm
  · exact absurd (e1 ▸ hb) (Nat.lt_irrefl _)
  · cases hm
end

section
variable {prog : Program} {w : World} {A : Around} {R : Result → Shared → Prop} {I : Addr} {fp wr : List Addr} {n : Nat} {P : Nat → Value → Prop} {St : Nat → Heap → Prop}
theorem best_min (d : Value) (W : Walks prog w A.in1 I fp wr n P St) (bt : Nat → Nat → Bool) (hcmp : CmpOf prog w A.in1 .Lt P bt) (S : Addr) (hSf : S ∉ fp) :
    ∀ (k j : Nat) (s : Shared) (its : Array Value) (c : Nat), n - j = k → j ≤ n → St j s.heap →
    ((j = 0 ∧ its = #[]) ∨ ∃ vb, its = #[vb, vb] ∧ 0 < j ∧ P (argBest bt (j - 1)) vb) →
    s.heap.get? S = some { cls := .type "list", dict := none, data := .seq its c, slots := #[] } →
    (∀ v h' tk, (n = 0 ∧ v = d ∨ 0 < n ∧ P (argBest bt (n - 1)) v) → (∀ b o, b ∉ wr → b ≠ S → s.heap.get? b = some o → h'.get? b = some o) → R (.ok (.ret v)) { s with heap := h', toks := tk }) →
    codeAny (model prog w) A (.builtin "min.loop" ⟨[.ref I, .none, .ref S], [("default", d)]⟩) R s := by
  have hSw : S ∉ wr := fun h => hSf (W.sub _ h)
  have hn : (toString "min" ++ toString ".loop" : String) = "min.loop" := by decide
  intro k
  induction k with
  | zero =>
    intro j s its c hk hj hst hi hS hR
    have hin : j = n := by omega
    subst hin
    refine codeAny_builtin F.entry_min_loop ?_
    rw [Around.under_plainId F.plain_min_loop _]
    show wpAny _ A.in1 (seqItems? (.ref S) >>= _) _ _ s
    refine wpAny_bind (wpAny_seqItems hS rfl ?_)
    show wpAny _ A.in1 (tryCatch (pyNext (.ref I)) _ >>= _) _ _ s
    refine wpAny_bind (wpAny_tryCatch (W.done s _ _ hst fun h' tk hk' => ?_))
    rcases hi with ⟨e0, rfl⟩ | ⟨vb, rfl, h0, hP⟩
    · refine wpAny_bind (wpAny_rule ?_)
      exact wpAny_pure (hR d _ tk (.inl ⟨e0, rfl⟩) fun b o hbw _ e => hk' b o hbw e)
    · have hS' := hk' S _ hSw hS
      show wpAny _ A.in1 (updateSeq S (fun _ => #[]) >>= _) _ _ _
      refine wpAny_bind ?_
      refine wpAny_updateSeq hS' rfl (wpAny_bind (wpAny_letGo (wpAny_pure ?_)))
      exact hR vb _ tk (.inr ⟨h0, hP⟩) fun b o hbw hbS e => (Heap.get?_update_other _ _ (Ne.symm hbS)).trans (hk' b o hbw e)
  | succ k ih =>
    intro j s its c hk hj hst hi hS hR
    have hlt : j < n := by omega
    have go : ∀ {h' : Heap} {tk} {v : Value} (c' : Nat), (∀ b o, b ∉ wr → b ≠ S → s.heap.get? b = some o → h'.get? b = some o) → St (j + 1) h' → P (argBest bt j) v → h'.get? S = some { cls := .type "list", dict := none, data := .seq #[v, v] c', slots := #[] } →
        codeAny (model prog w) A (.builtin "min.loop" ⟨[.ref I, .none, .ref S], [("default", d)]⟩) R { s with heap := h', toks := tk } := fun c' kp st hv hS' =>
      ih (j + 1) _ #[_, _] c' (by omega) hlt st (.inr ⟨_, rfl, Nat.succ_pos _, hv⟩) hS' fun v' h'' tk'' hP' hk'' => hR v' h'' tk'' hP' fun b o hbw hbS e => hk'' b o hbw hbS (kp b o hbw hbS e)
    refine codeAny_builtin F.entry_min_loop ?_
    rw [Around.under_plainId F.plain_min_loop _]
    show wpAny _ A.in1 (seqItems? (.ref S) >>= _) _ _ s
    refine wpAny_bind (wpAny_seqItems hS rfl ?_)
    show wpAny _ A.in1 (tryCatch (pyNext (.ref I)) _ >>= _) _ _ s
    refine wpAny_bind (wpAny_tryCatch (W.item j s _ _ hlt hst fun v h' tk hP hst' hk' => ?_))
    have hS' := hk' S _ hSw hS
    rcases hi with ⟨e0, rfl⟩ | ⟨vb, rfl, h0, hPb⟩
    · subst e0
      show wpAny _ A.in1 (updateSeq S (fun _ => #[v, v]) >>= _) _ _ _
      refine wpAny_bind ?_
      refine wpAny_updateSeq hS' rfl ?_
      rw [hn]
      refine wpAny_pure ⟨plainId_quiet F.plain_min_loop _, go _ (fun b o hbw hbS e => (Heap.get?_update_other _ _ (Ne.symm hbS)).trans (hk' b o hbw e)) (W.frame _ _ _ hst' fun b hbf o e => ?_) hP (Heap.get?_update_self _ hS' rfl)⟩
      exact (Heap.get?_update_other _ _ (fun h : S = b => hSf (by rw [h]; exact hbf))).trans e
    · obtain ⟨i, rfl⟩ : ∃ i, j = i + 1 := ⟨j - 1, by omega⟩
      show wpAny _ A.in1 (tryCatch (holding [v, v] (richCompare .Lt v vb >>= _)) _ >>= _) _ _ _
      refine wpAny_bind (wpAny_tryCatch (wpAny_holding (wpAny_bind (hcmp (i + 1) (argBest bt i) v vb _ _ _ hP hPb ?_))))
      refine wpAny_bind (wpAny_holding (wpAny_truthy_bool ?_))
      refine wpAny_bind (wpAny_letGo (wpAny_pure ?_))
      cases hb : bt (i + 1) (argBest bt i) with
      | true =>
        simp only [if_true]
        refine wpAny_bind ?_
        refine wpAny_updateSeq hS' rfl (wpAny_bind (wpAny_letGo ?_))
        rw [hn]
        refine wpAny_pure ⟨plainId_quiet F.plain_min_loop _, go _ (fun b o hbw hbS e => (Heap.get?_update_other _ _ (Ne.symm hbS)).trans (hk' b o hbw e)) (W.frame _ _ _ hst' fun b hbf o e => ?_) (by simp only [argBest, hb, if_true]; exact hP) (Heap.get?_update_self _ hS' rfl)⟩
        exact (Heap.get?_update_other _ _ (fun h : S = b => hSf (by rw [h]; exact hbf))).trans e
      | false =>
        simp only [Bool.false_eq_true, if_false]
        refine wpAny_bind (wpAny_letGo ?_)
        rw [hn]
        exact wpAny_pure ⟨plainId_quiet F.plain_min_loop _, go c (fun b o hbw _ e => hk' b o hbw e) hst' (by simp only [argBest, hb, Bool.false_eq_true, if_false]; exact hPb) hS'⟩
theorem args_minD (a d : Value) : argsOk "min" ⟨[a], [("default", d)]⟩ := by unfold argsOk; kernel_rfl
end
section
variable {prog : Program} {w : World} {A : Around} {E : Value → Shared → Prop} {s : Shared} {l : Addr} {xs : Array (Int × Tok)}
theorem min_default {Q : Value → Shared → Prop} (d : Value) (hh : A.handled = none) (hl : s.heap.IsList l (intItems xs))
    (h : ∀ v h' tk, (xs.size = 0 ∧ v = d ∨ 0 < xs.size ∧ (intItems xs)[argBest (fun i j => decide (numAt xs i < numAt xs j)) (xs.size - 1)]? = some v) → (∀ b o, s.heap.get? b = some o → h'.get? b = some o) → Q v { s with heap := h', toks := tk }) :
    wpAny (model prog w) A (call (.builtin "min") [.ref l] [("default", d)]) Q E s := by
  have hn : (toString "min" ++ toString ".loop" : String) = "min.loop" := by decide
  refine tree_kw F.kind_min F.plain_min F.entry_min (args_minD _ _) ?_
  show wpAny _ A.in1 (Builtin.Builtins.bindParams "min" ["key", "default"] 0 ⟨[], [("default", d)]⟩ >>= _) _ _ s
  refine wpAny_bind (wpAny_of_eq (show Builtin.Builtins.bindParams "min" ["key", "default"] 0 ⟨[], [("default", d)]⟩ = pure [none, some d] from rfl) ?_)
  refine wpAny_bind (wpAny_pure ?_)
  refine wpAny_bind (iter_intList hl fun s₂ e st hfp hlI => ?_)
  subst e
  refine wpAny_bind (wpAny_newObj_type ?_)
  have W := Walks.list (prog := prog) (w := w) (A := A.in1) hh _ l hlI (intItems xs)
  rw [hn]
  refine wpAny_pure ⟨plainId_quiet F.plain_min_loop _, best_min d W _ (CmpOf.ints_lt (numAt xs) (fun _ _ => intItems_at)) _ (fun hm => Nat.lt_irrefl _ (hfp _ hm)) _ 0 _ #[] _ rfl (Nat.zero_le _) (W.frame _ _ _ st fun b _ o e => Heap.get?_push_of_some _ e) (.inl ⟨rfl, rfl⟩) (Heap.get?_push_size _ rfl) fun v h' tk hP hk => ?_⟩
  have hz : (intItems xs).size = xs.size := by simp [intItems]
  rw [hz] at hP
  refine h v h' tk hP fun b o e => ?_
  have hb := Heap.lt_size e
  refine hk b o (fun hm => ?_) (Nat.ne_of_lt (by rw [Heap.size_push]; exact Nat.lt_succ_of_lt hb)) (Heap.get?_push_of_some _ (Heap.get?_push_of_some _ e))
  rcases List.mem_cons.mp hm with e1 | hm
  · exact absurd (e1 ▸ hb) (Nat.lt_irrefl _)
  · cases hm
end
end PySem
namespace Lw
open PySem PySem.Spec L2 Evl PyProof.Rows
/-- max(xs, default=d), min(xs, default=d) of a list of ints -/
def rBest (K : PySem.W.Frag) (R : Int → Int → Prop) : List V → List V → Hp → VK → Prop := fun vs zs H Q => ∃ (a : Addr) (ns : List Int) (d : V), vs = [V.ref a] ∧ zs = [d] ∧ SqL K H a (ns.map V.int) ∧ (ns = [] → Q d H) ∧ ∀ m, m ∈ ns → (∀ y, y ∈ ns → R y m) → Q (.int m) H
section
variable {X : Cx}
theorem cr_maxD (hc : X.calm = true) : CallRK X (.builtin "max") ["default"] (rBest X.K fun y m => y ≤ m) := by
  intro pins s σ H vs zs us ws Q I r rz h
  obtain ⟨a, ns, d, rfl, rfl, hs, q0, q⟩ := h
  obtain ⟨its, rv, hl, _⟩ := I.list hs
  rw [Vals.ref1 r]
  obtain ⟨d', rfl, rd⟩ := vals1 rz
  have hi := rv.ints
  obtain ⟨xs, e⟩ := hi.allInts.items
  have hn : numsOf (intItems xs).toList = ns := by rw [← e]; exact hi.numsOf
  rw [nums_intItems] at hn
  subst hn
  have hl' : s.heap.IsList a (intItems xs) := e ▸ hl.isList
  refine max_default d' (I.ok.hd hc) hl' fun v h' tk hP hk => ?_
  rcases hP with ⟨h0, rfl⟩ | ⟨h0, hv⟩
  · have e0 : xs = #[] := Array.eq_empty_of_size_eq_zero h0
    subst e0
    exact ⟨d, H, I.kept hk, rd, q0 rfl⟩
  · obtain ⟨t, rfl⟩ := intItems_at hv
    obtain ⟨h1, h2⟩ := argBest_gt (numAt xs) (xs.size - 1)
    refine ⟨.int _, H, I.kept hk, ⟨_, rfl⟩, q _ ?_ fun b hb => ?_⟩
    · rw [numAt_eq]; exact PySem.getD_mem (by rw [List.length_map, Array.length_toList]; omega)
    · obtain ⟨j, hj, rfl⟩ := mem_getD hb
      rw [List.length_map, Array.length_toList] at hj
      rw [← numAt_eq]; exact h2 j (by omega)
theorem cr_minD (hc : X.calm = true) : CallRK X (.builtin "min") ["default"] (rBest X.K fun y m => m ≤ y) := by
  intro pins s σ H vs zs us ws Q I r rz h
  obtain ⟨a, ns, d, rfl, rfl, hs, q0, q⟩ := h
  obtain ⟨its, rv, hl, _⟩ := I.list hs
  rw [Vals.ref1 r]
  obtain ⟨d', rfl, rd⟩ := vals1 rz
  have hi := rv.ints
  obtain ⟨xs, e⟩ := hi.allInts.items
  have hn : numsOf (intItems xs).toList = ns := by rw [← e]; exact hi.numsOf
  rw [nums_intItems] at hn
  subst hn
  have hl' : s.heap.IsList a (intItems xs) := e ▸ hl.isList
  refine min_default d' (I.ok.hd hc) hl' fun v h' tk hP hk => ?_
  rcases hP with ⟨h0, rfl⟩ | ⟨h0, hv⟩
  · have e0 : xs = #[] := Array.eq_empty_of_size_eq_zero h0
    subst e0
    exact ⟨d, H, I.kept hk, rd, q0 rfl⟩
  · obtain ⟨t, rfl⟩ := intItems_at hv
    obtain ⟨h1, h2⟩ := argBest_lt (numAt xs) (xs.size - 1)
    refine ⟨.int _, H, I.kept hk, ⟨_, rfl⟩, q _ ?_ fun b hb => ?_⟩
    · rw [numAt_eq]; exact PySem.getD_mem (by rw [List.length_map, Array.length_toList]; omega)
    · obtain ⟨j, hj, rfl⟩ := mem_getD hb
      rw [List.length_map, Array.length_toList] at hj
      rw [← numAt_eq]; exact h2 j (by omega)
end
section
variable {X : Cx} {σ : L2.St} {H : Hp} {Q : VK} {x : Str} {p pos p2 : Pos} {e o i a : Expr} {es : List Expr} {kws : List Keyword}
theorem e_bltK {id : String} {ks : List Str} {r : List V → List V → Hp → VK → Prop} (hc : CallRK X (.builtin id) ks r) (hm : X.mg x = none) (hv : bootBuiltins x = some (.builtin id)) (h : WA X (e :: es) σ H fun vs H1 => WK X kws σ H1 fun zs H2 => r vs zs H2 Q)
    (hg : Gl X x := by rfl) (hn : x ≠ "__name__" := by decide) (hdb : (x == ("__debug__" : Str)) = false := by decide)
    (he : backTo pos (starEach (e :: es) X.env) = (false, eval e X.env) :: backTo pos (starEach es X.env) := by rfl) (hpl : (backTo pos (starEach (e :: es) X.env)).any (·.1) = false := by rfl)
    (hall : (backToKw pos (keywordEach kws X.env)).all (·.1.isSome) = true := by rfl) (hnone : (backToKw pos (keywordEach kws X.env)).any (·.1.isNone) = false := by rfl) (hks : (backToKw pos (keywordEach kws X.env)).filterMap (·.1) = ks := by rfl) :
    WE X (.Call (.Name x p) (e :: es) kws pos) σ H Q := ⟨_, pe_callBK hc hg hm hv WA.pa WK.pk hn hdb he hpl hall hnone hks, h⟩
/-! dicts -/
theorem e_dget (hu : X.A.units + 1 < cLine) (hs : NoSl i := by intro _ _; rfl) (h : WE X o σ H fun x H1 => WE X i σ H1 fun y H2 => ∃ a v, x = .ref a ∧ DGet H2 a y (some v) ∧ Q v H2) : WE X (.Subscript o i pos) σ H Q := ⟨_, pe_dget hu WE.pe WE.pe hs, h⟩
theorem t_dnotin {QT : Bool → Hp → Prop} (hu : X.A.units + 1 < cLine) (h1 : behindInMarks .NotIn o = false := by first | exact nobehind _ (by decide) (by decide) | rfl)
    (h : WE X i σ H fun y H1 => WE X o σ H1 fun x H2 => ∃ a r, x = .ref a ∧ DGet H2 a y r ∧ QT (!r.isSome) H2) : WT X (.Compare i [.NotIn] [o] pos) σ H QT := by
  refine ⟨_, pt_cmp (pc_dnotin hu WE.pe WE.pe) h1, ?_⟩
  show WE X i σ H fun y H1 => WE X o σ H1 fun x H2 => ∃ a r, x = .ref a ∧ DGet H2 a y r ∧ ∃ k, V.bl (!r.isSome) = .bl k ∧ QT k H2
  obtain ⟨t, ht, q⟩ := h
  refine ⟨t, ht, ?_⟩
  have e : (fun (y : V) (H1 : Hp) => WE X o σ H1 fun x H2 => ∃ a r, x = .ref a ∧ DGet H2 a y r ∧ ∃ k, V.bl (!r.isSome) = .bl k ∧ QT k H2) = (fun y H1 => WE X o σ H1 fun x H2 => ∃ a r, x = .ref a ∧ DGet H2 a y r ∧ QT (!r.isSome) H2) := by
    funext y H1
    congr 1
    funext x H2
    apply propext
    constructor
    · rintro ⟨a, r, e, g, k, ek, q⟩; cases ek; exact ⟨a, r, e, g, q⟩
    · rintro ⟨a, r, e, g, q⟩; exact ⟨a, r, e, g, _, rfl, q⟩
  rw [e]
  exact q
theorem s_dput {D : Ends} {value : Expr} {pos' : Pos} (hu : X.A.units + 1 < cLine) (hs : swapsWith value (some (.Subscript o i pos')) pos.line X.env = pure false := by rfl)
    (h : WE X value σ H fun v H1 => WE X o σ H1 fun x H2 => WE X i σ H2 fun y H3 => ∃ a H4, x = .ref a ∧ DPut H3 a y v H4 ∧ D.nx σ H4) : WS X (.Assign [.Subscript o i pos'] value pos) D σ H := ⟨_, ps_dput hu WE.pe WE.pe WE.pe hs, h⟩
theorem e_dnew (h : ∀ p, H p = none → Q (.ref p) (upd H p (.dK []))) : WE X (.Dict [] [] pos) σ H Q := ⟨_, pe_dnewK, h⟩
def tDcR (J : It) (g : TG) (tt : TT) (tk tv : TE) (vs : List Nat) (σ : L2.St) (H1 : Hp) (D : Addr) (Qd : Hp → Prop) : Prop := ∃ W : Nat → Nat → Hp → Prop, (∃ m, W 0 m (upd H1 D (.dK []))) ∧ ∀ i m H, W i m H →
  (J.stop i H ∧ Qd H) ∨ (J.go i H ∧ ∃ Nx : Hp → Prop, (∀ H', Nx H' → ∃ m', m' < m ∧ W (i + 1) m' H') ∧ ∀ x H', J.yld i H x H' → g x (wipe σ vs) H' fun σ2 H2 => wipe σ2 vs = wipe σ vs ∧ tt σ2 H2 fun b H3 =>
    if b = true then tk σ2 H3 fun y H4 => tv σ2 H4 fun z H5 => ∃ kvs k, y = kV k ∧ H5 D = some (.dK kvs) ∧ kvs.length < sizeLine ∧ Nx (upd H5 D (.dK (putK kvs k z))) else Nx H3)
theorem e_dc {tg iter kx vx : Expr} {ifs : List Expr} {scope : Scope} (own : List (Str × Nat)) (hN : X.N.Nodup) (ok : BlkOk X.N X.env.scope scope own := by exact blkOk_by (by decide +kernel)) (hc : X.calm = true := by rfl) (hs : ∀ x, foldedSetIterable iter X.env x = pure x := by intro _; rfl)
    (h : WI X tg iter σ H fun J H1 => ∀ D, H1 D = none → tDcR J (GBlk X scope tg) (TBlk X scope ifs) (EBlk X scope kx) (EBlk X scope vx) (own.map (·.2)) σ H1 D (Q (.ref D))) : WE X (.DictComp kx vx [⟨tg, iter, ifs, 0⟩] scope pos) σ H Q :=
  ⟨_, pe_dc hc hN WI.pi ok blk_g blk_t blk_e blk_e hs, h⟩
theorem e_slT {lo hi : Option Expr} (h : WE X a σ H fun x H1 => WO X lo σ H1 fun i H2 => WO X hi σ H2 fun j H3 => rSlT X.K x i j H3 Q) : WE X (.Subscript a (.Slice lo hi none p2) pos) σ H Q := ⟨_, pe_slice sl_tup WE.pe WO.po WO.po, h⟩
/-- over a walk, the new dict at D -/
theorem dc_it {J : It} {n : Nat} {G : Hp → Prop} {Y : Nat → Hp → V → Hp → Prop} {H1 : Hp} {g : TG} {tt : TT} {tk tv : TE} {vs : List Nat} {D : Addr} {Qd : Hp → Prop} (w : Walk J n G Y) (Pv : Nat → Hp → Prop) (h0 : Pv 0 (upd H1 D (.dK []))) (hG : ∀ i H, i ≤ n → Pv i H → G H)
    (hs : ∀ i x H H', i < n → Pv i H → Y i H x H' → g x (wipe σ vs) H' fun σ2 H2 => wipe σ2 vs = wipe σ vs ∧ tt σ2 H2 fun b H3 =>
      if b = true then tk σ2 H3 fun y H4 => tv σ2 H4 fun z H5 => ∃ kvs k, y = kV k ∧ H5 D = some (.dK kvs) ∧ kvs.length < sizeLine ∧ Pv (i + 1) (upd H5 D (.dK (putK kvs k z))) else Pv (i + 1) H3) (hd : ∀ H, Pv n H → Qd H) : tDcR J g tt tk tv vs σ H1 D Qd := by
  refine ⟨fun i m H => m = n - i ∧ i ≤ n ∧ Pv i H, ⟨n, by simp, Nat.zero_le _, h0⟩, ?_⟩
  rintro i m H ⟨rfl, hi, p⟩
  have q := hG i H hi p
  by_cases hlt : i < n
  · exact .inr ⟨w.goes i H hlt q, Pv (i + 1), fun H' p' => ⟨n - (i + 1), by omega, rfl, hlt, p'⟩, fun x H' y => hs i x H H' hlt p (w.yields i H x H' hlt q y)⟩
  · have e : i = n := by omega
    subst e
    exact .inl ⟨w.stops H q, hd H p⟩
end
end Lw
namespace Lw
open PySem PySem.Spec L2 Evl
/-! ### small things -/
theorem Das.put {α : Type} [DecidableEq α] [Dat α] {K : PySem.W.Frag} {B : Hp} {v : V} {x : α} : ∀ {vs : List V} {xs : List α} (i : Nat), Das K B vs xs → Dt K B v x → Das K B (vs.set i v) (xs.set i x)
  | [], [], _, h, _ => h
  | [], _ :: _, _, h, _ => by cases h
  | _ :: _, [], _, h, _ => by cases h
  | _ :: vs, _ :: xs, 0, h, d => by
    cases h with
    | cons a b => exact .cons d b
  | _ :: vs, _ :: xs, i + 1, h, d => by
    cases h with
    | cons a b => exact .cons a (Das.put i (show Das K B vs xs from b) d)
theorem Das.bools {K : PySem.W.Frag} {B : Hp} : ∀ {vs : List V} {bs : List Bool}, Das K B vs bs → vs = bs.map V.bl
  | [], [], _ => rfl
  | [], _ :: _, h => by cases h
  | _ :: _, [], h => by cases h
  | v :: vs, b :: bs, h => by
    cases h with
    | cons h hs => rw [List.map_cons, dt_bl (show Dt K B v b from h), Das.bools (show Das K B vs bs from hs)]
theorem Das.upto {α : Type} [DecidableEq α] [Dat α] {K : PySem.W.Frag} {B : Hp} : ∀ {vs : List V} {xs : List α} (n : Nat), Das K B vs xs → Das K B (vs.take n) (xs.take n)
  | _, _, 0, _ => by rw [List.take_zero, List.take_zero]; exact Das.nil
  | [], [], _ + 1, h => h
  | [], _ :: _, _, h => by cases h
  | _ :: _, [], _, h => by cases h
  | _ :: vs, _ :: xs, n + 1, h => by
    cases h with
    | cons a b => exact .cons a (Das.upto n (show Das K B vs xs from b))
theorem ixN_pos {n : Nat} {i : Int} (h0 : 0 ≤ i) (h1 : i < n) : ixN n i = some i.toNat := by
  unfold ixN
  rw [if_pos h0, if_pos h1]
theorem take_next {α : Type} {xs : List α} {i : Nat} {a : α} (h : xs[i]? = some a) : xs.take (i + 1) = xs.take i ++ [a] := by
  rw [List.take_add_one, h]
  rfl
theorem fmap_congr {α β : Type} {f g : α → Option β} : ∀ {l : List α}, (∀ a ∈ l, f a = g a) → l.filterMap f = l.filterMap g
  | [], _ => rfl
  | a :: l, h => by
    rw [List.filterMap_cons, List.filterMap_cons, h a List.mem_cons_self, fmap_congr fun b hb => h b (List.mem_cons_of_mem _ hb)]
theorem flat_ints : ∀ ns : List Int, (ns.map V.int).all flatV = true
  | [] => rfl
  | n :: ns => by rw [List.map_cons, List.all_cons, flat_ints ns]; rfl
theorem in_ints (y : Int) : ∀ ns : List Int, inV (.int y) (ns.map V.int) = decide (y ∈ ns) := by
  intro ns
  have hq : ∀ n : Int, eqV (.int n) (.int y) = decide (n = y) := fun n => by
    show (n == y) = _
    exact beq_dec n y
  rw [Bool.eq_iff_iff, decide_eq_true_eq]
  unfold inV
  rw [List.any_eq_true]
  constructor
  · rintro ⟨v, hv, e⟩
    obtain ⟨n, hn, rfl⟩ := List.mem_map.mp hv
    rw [hq, decide_eq_true_eq] at e
    rw [← e]
    exact hn
  · intro h
    exact ⟨.int y, List.mem_map.mpr ⟨y, h, rfl⟩, by rw [hq]; exact decide_eq_true rfl⟩
theorem walk_from {a n : Nat} : Walk (Itr (a : Nat) n) n (fun _ => True) (fun i H x H' => H' = H ∧ x = .int ((a + i : Nat) : Int)) :=
  (walk_range (lo := (a : Nat))).mono (fun _ h => h) fun i H x H' _ _ y => ⟨y.1, by rw [y.2]; show V.int ((a : Nat) + (i : Nat)) = _; rw [Int.natCast_add]⟩
/-! ### sorted, uniquely -/
def SrtI (ys ks : List Int) : Prop := ys.Perm ks ∧ ys.Pairwise (· ≤ ·)
theorem srtI_uniq {xs ys ks : List Int} (h1 : SrtI xs ks) (h2 : SrtI ys ks) : xs = ys := by
  have hp : xs.Perm ys := h1.1.trans h2.1.symm
  exact go xs ys hp h1.2 h2.2
where
  go : ∀ xs ys : List Int, xs.Perm ys → xs.Pairwise (· ≤ ·) → ys.Pairwise (· ≤ ·) → xs = ys
    | [], ys, h, _, _ => (List.nil_perm.mp h).symm
    | x :: xs, [], h, _, _ => absurd h.symm (by simp)
    | x :: xs, y :: ys, h, h1, h2 => by
      obtain ⟨a1, a2⟩ := List.pairwise_cons.mp h1
      obtain ⟨b1, b2⟩ := List.pairwise_cons.mp h2
      have e : x = y := by
        have m1 : x ∈ y :: ys := h.mem_iff.mp List.mem_cons_self
        have m2 : y ∈ x :: xs := h.mem_iff.mpr List.mem_cons_self
        rcases List.mem_cons.mp m1 with e | e
        · exact e
        · rcases List.mem_cons.mp m2 with e' | e'
          · exact e'.symm
          · have := a1 _ e'; have := b1 _ e; omega
      subst e
      rw [go xs ys (List.Perm.cons_inv h) a2 b2]
/-! ### the least and the greatest -/
def lmin (d : Int) : List Int → Int
  | [] => d
  | c :: cs => cs.foldl min c
def lmax (d : Int) : List Int → Int
  | [] => d
  | c :: cs => cs.foldl max c
theorem fold_min : ∀ (cs : List Int) (c : Int), (cs.foldl min c = c ∨ cs.foldl min c ∈ cs) ∧ cs.foldl min c ≤ c ∧ ∀ y ∈ cs, cs.foldl min c ≤ y
  | [], c => ⟨.inl rfl, Int.le_refl _, fun y h => nomatch h⟩
  | d :: cs, c => by
    obtain ⟨h1, h2, h3⟩ := fold_min cs (min c d)
    rw [List.foldl_cons]
    refine ⟨?_, by omega, fun y hy => ?_⟩
    · rcases h1 with h | h
      · rw [h]
        rcases Int.le_total c d with e | e
        · left; omega
        · right; rw [Int.min_eq_right e]; exact List.mem_cons_self
      · exact .inr (List.mem_cons_of_mem _ h)
    · rcases List.mem_cons.mp hy with rfl | hy
      · omega
      · exact h3 y hy
theorem fold_max : ∀ (cs : List Int) (c : Int), (cs.foldl max c = c ∨ cs.foldl max c ∈ cs) ∧ c ≤ cs.foldl max c ∧ ∀ y ∈ cs, y ≤ cs.foldl max c
  | [], c => ⟨.inl rfl, Int.le_refl _, fun y h => nomatch h⟩
  | d :: cs, c => by
    obtain ⟨h1, h2, h3⟩ := fold_max cs (max c d)
    rw [List.foldl_cons]
    refine ⟨?_, by omega, fun y hy => ?_⟩
    · rcases h1 with h | h
      · rw [h]
        rcases Int.le_total c d with e | e
        · right; rw [Int.max_eq_right e]; exact List.mem_cons_self
        · left; omega
      · exact .inr (List.mem_cons_of_mem _ h)
    · rcases List.mem_cons.mp hy with rfl | hy
      · omega
      · exact h3 y hy
theorem lmin_is {d m : Int} {cs : List Int} (h1 : m ∈ cs) (h2 : ∀ y ∈ cs, m ≤ y) : m = lmin d cs := by
  cases cs with
  | nil => cases h1
  | cons c cs =>
    obtain ⟨k1, k2, k3⟩ := fold_min cs c
    show m = cs.foldl min c
    have a : m ≤ cs.foldl min c := by
      rcases k1 with h | h
      · rw [h]; exact h2 c List.mem_cons_self
      · exact h2 _ (List.mem_cons_of_mem _ h)
    have b : cs.foldl min c ≤ m := by
      rcases List.mem_cons.mp h1 with rfl | h
      · exact k2
      · exact k3 m h
    omega
theorem lmax_is {d m : Int} {cs : List Int} (h1 : m ∈ cs) (h2 : ∀ y ∈ cs, y ≤ m) : m = lmax d cs := by
  cases cs with
  | nil => cases h1
  | cons c cs =>
    obtain ⟨k1, k2, k3⟩ := fold_max cs c
    show m = cs.foldl max c
    have a : cs.foldl max c ≤ m := by
      rcases k1 with h | h
      · rw [h]; exact h2 c List.mem_cons_self
      · exact h2 _ (List.mem_cons_of_mem _ h)
    have b : m ≤ cs.foldl max c := by
      rcases List.mem_cons.mp h1 with rfl | h
      · exact k2
      · exact k3 m h
    omega
section
variable {X : Cx} {σ : L2.St} {H : Hp} {Q : VK} {a e : Expr} {p p2 p3 q pos : Pos}
/-- len(set(xs)) of different ints -/
theorem e_lenSet (hm : X.mg "len" = none) (hm2 : X.mg "set" = none) (hg : Gl X "len" := by rfl) (hg2 : Gl X "set" := by rfl) (hc : X.calm = true := by rfl) (na : starEach [a] X.env = (false, eval a X.env) :: starEach [] X.env := by rfl)
    (h : WE X a σ H fun x H1 => ∃ (l : Addr) (ns : List Int), x = .ref l ∧ SqL X.K H1 l (ns.map V.int) ∧ ns.Nodup ∧ ns.length ≤ 4000 ∧ Q (.int (ns.length : Nat)) H1) : WE X (.Call (.Name "len" p) [.Call (.Name "set" p2) [a] [] q] [] pos) σ H Q := ⟨_, RZ.pe_lenSetI hg hm hg2 hm2 WE.pe hc na, h⟩
end
end Lw
/-! Defs that may raise, own errors, try; great powers; zip of tuples; op= of names. -/
namespace Lw
open PySem PySem.Spec L2 Evl

/-! ### great powers -/
def CPowW (i j : Int) : Prop := 0 ≤ j ∧ (Builtin.Int.intBits i : Int) * j ≤ 2 ^ 27
section
variable {X : Cx} {σ : L2.St} {H : Hp} {Q : VK} {a b e : Expr} {pos p2 : Pos}
theorem op_powW : OpR X (binaryOp .Pow) (rI CPowW fun i j => .int (i ^ j.toNat)) := opI fun _ _ _ _ _ _ _ hc q => PyProof.Rows.pow_int hc.1 hc.2 q
theorem e_powW (h : WE X a σ H fun x H1 => WE X b σ H1 fun y H2 => ∃ i j, x = .int i ∧ y = .int j ∧ CPowW i j ∧ Q (.int (i ^ j.toNat)) H2) : WE X (.BinOp a .Pow b pos) σ H Q := e_bin op_powW h
end
theorem bits_le {i : Int} {n : Nat} (h : i.natAbs < 2 ^ n) : Builtin.Int.intBits i ≤ n := by
  unfold Builtin.Int.intBits
  split
  · omega
  · rename_i h0
    have h0' : i.natAbs ≠ 0 := by
      intro z
      apply h0
      rw [beq_iff_eq]
      omega
    have := (Nat.log2_lt h0').mpr h
    omega
theorem powW_of {i j : Int} {n : Nat} (h : i.natAbs < 2 ^ n) (h0 : 0 ≤ j) (h1 : (n : Int) * j ≤ 2 ^ 27) : CPowW i j := by
  refine ⟨h0, Int.le_trans (Int.mul_le_mul_of_nonneg_right ?_ h0) h1⟩
  exact_mod_cast bits_le h

/-! ### calls of defs that may raise -/
structure CalX (P : Program) (w : World) (K : PySem.W.Frag) (mg : Str → Option Value) (base : Heap) (x : Str) (k : Nat) (ps : List Str) (sp : Sp) : Prop where
  ex : ∃ f fd, FnOk P w K mg base (L2.CX P w) k f fd ps sp ∧ mg x = some (.ref f) ∧ PySem.W.keepIn K (.ref f) = true ∧ Binds K fd ps []
structure CalKX (P : Program) (w : World) (K : PySem.W.Frag) (mg : Str → Option Value) (base : Heap) (x : Str) (k : Nat) (ps ks : List Str) (gV : List V → List V) (sp : Sp) : Prop where
  ex : ∃ f fd g, FnOk P w K mg base (L2.CX P w) k f fd ps sp ∧ mg x = some (.ref f) ∧ PySem.W.keepIn K (.ref f) = true ∧ KBn K fd ps 0 ks g (fun _ zs => gV zs)
section
variable {X : Cx} {σ : L2.St} {H : Hp} {Q : VK} {a b c e o : Expr} {pos p2 apos : Pos} {x m : Str} {v : V} {es : List Expr} {k : Nat} {ps ks : List Str} {sp : Sp} {gV : List V → List V} {W : WX}
theorem e_callX (cl : CalX X.prog X.w X.K X.mg X.base x k ps sp) (tk : Takes X W) (hr : Room k X.A) (hg : Gl X x := by rfl) (hdb : (x == ("__debug__" : Str)) = false := by decide) (he : starEach (e :: es) X.env = (false, eval e X.env) :: starEach es X.env := by rfl) (hpl : (backTo pos (starEach es X.env)).any (·.1) = false := by rfl)
    (h : WA X (e :: es) σ H fun vs H1 => sp vs H1 Q (fun cls d H' => W cls d σ H')) : WE X (.Call (.Name x p2) (e :: es) [] pos) σ H Q := by
  obtain ⟨f, fd, F, hm, hk, hb⟩ := cl.ex
  exact ⟨_, pe_callS (E := L2.WE W) F hr hg hm hk hb (fun σ => passAt tk σ) WA.pa hdb he hpl, h⟩
theorem pe_callN1 {CX : CXT} {f : Addr} {fd : FuncData} {E : XK} {kws : List Keyword} {tk : TA} {g : List Value → List Value → List Value} {gW : List V → List V → List V} (F : FnOk X.prog X.w X.K X.mg X.base CX k f fd ps sp) (hr : Room k X.A) (hg : Gl X x) (hm : X.mg x = some (.ref f)) (hk : PySem.W.keepIn X.K (.ref f) = true) (hb : KBn X.K fd ps 0 ks g gW) (hx : Passes CX X E)
    (hkw : PK X kws tk) (hall : (backToKw pos (keywordEach kws X.env)).all (·.1.isSome) = true := by rfl) (hks : (backToKw pos (keywordEach kws X.env)).filterMap (·.1) = ks := by rfl)
    (hdb : (x == ("__debug__" : Str)) = false := by decide)
    (hpl : ((backTo pos (starEach [] X.env)).any (·.1) || (backToKw pos (keywordEach kws X.env)).any (·.1.isNone)) = false := by rfl) :
    PE X (.Call (.Name x p2) [] kws pos) (tCallN 0 ks.length sp gW E tNil tk) := pe_callN0 F hr hg hm hk hb hx hkw hall hks hdb hpl
/-- by keywords alone, where it raises nothing -/
theorem e_callKX {kws : List Keyword} (cl : CalKX X.prog X.w X.K X.mg X.base x k ps ks gV sp) (hr : Room k X.A) (hg : Gl X x := by rfl) (hdb : (x == ("__debug__" : Str)) = false := by decide)
    (hall : (backToKw pos (keywordEach kws X.env)).all (·.1.isSome) = true := by rfl) (hks : (backToKw pos (keywordEach kws X.env)).filterMap (·.1) = ks := by rfl)
    (hpl : ((backTo pos (starEach [] X.env)).any (·.1) || (backToKw pos (keywordEach kws X.env)).any (·.1.isNone)) = false := by rfl)
    (h : WK X kws σ H fun zs H1 => ([] : List V).length = 0 ∧ zs.length = ks.length ∧ sp (gV zs) H1 Q E0) : WE X (.Call (.Name x p2) [] kws pos) σ H Q := by
  obtain ⟨f, fd, g, F, hm, hk, hb⟩ := cl.ex
  exact ⟨_, pe_callN0 F hr hg hm hk hb passL WK.pk hall hks hdb hpl, h⟩
end

/-! ### own error classes over ValueError with one attribute -/
/-- __init__: self.value = value -/
def sp_wi (K : PySem.W.Frag) : Sp := fun vs H Q _ => ∃ (a C : Addr) (v : V), vs = [.ref a, v] ∧ OexC K C ∧ PySem.W.findIn K (.ref C) "value" = some none ∧ H a = some (exo a C none) ∧
  ∀ dx, H dx = none → dx ≠ a → Q .non (upd (upd H dx (exd dx [(("value" : Str), v)])) a (exo a C (some dx)))
structure ExC (P : Program) (w : World) (K : PySem.W.Frag) (mg : Str → Option Value) (base : Heap) (x : Str) (C : Addr) : Prop where
  gC : mg x = some (.ref C)
  ox : OexC K C
  xf : XfC K C
  nv : PySem.W.findIn K (.ref C) "value" = some none
  te : PySem.W.exmOne K (.ref C) (.ref C) = some true
  ini : ∃ fI fd, FnOk P w K mg base CX0 1 fI fd ["self", "value"] (sp_wi K) ∧ PySem.W.findIn K (.ref C) "__init__" = some (some (.ref fI)) ∧ PySem.W.typeIn K (.ref fI) = some (.type "function") ∧ Binds K fd ["self", "value"] []
/-- an error's dict -/
abbrev xv (v : V) : HO := .xd [(("value" : Str), v)]
theorem WE.mono {X : Cx} {σ : L2.St} {H : Hp} {Q Q' : VK} {e : Expr} (h : WE X e σ H Q) (hq : ∀ v H, Q v H → Q' v H) : WE X e σ H Q' :=
  ⟨fun σ H Q' => ∃ Q, WE X e σ H Q ∧ ∀ v H, Q v H → Q' v H, ⟨fun pins s σ H Q' I h' => by
    obtain ⟨Q, h1, h2⟩ := h'
    exact thn (WE.pe.run pins s σ H Q I h1) fun u s1 ⟨v, H1, I1, r, q⟩ => ⟨v, H1, I1, r, h2 _ _ q⟩⟩, Q, h, hq⟩
theorem WA.up {X : Cx} {es : List Expr} : PA X es (fun σ H Q => ∃ Q0, WA X es σ H Q0 ∧ ∀ vs H, Q0 vs H → Q vs H) := ⟨fun pos pins s σ H Q I h => by
  obtain ⟨Q0, h1, h2⟩ := h
  exact thn (WA.pa.run pos pins s σ H Q0 I h1) fun us s1 ⟨vs, H1, I1, r, q⟩ => ⟨vs, H1, I1, r, h2 _ _ q⟩⟩
section
variable {X : Cx} {σ : L2.St} {H : Hp} {Q : VK} {D : Ends} {a b e o : Expr} {p p' pos pos2 : Pos} {x : Str} {C : Addr} {W : WX} {f : Str}
/-- self.f = e of an error that is being made -/
theorem s_ost (hs : swapsWith e (some (.Attribute o f p')) pos.line X.env = pure false := by rfl) (h : tOst X.K f (WE X o) (WE X e) D σ H) : WS X (.Assign [.Attribute o f p'] e pos) D σ H := ⟨_, ps_ost WE.pe WE.pe hs, h⟩
/-- raise X(e) -/
theorem s_raiseO (T : ExC X.prog X.w X.K X.mg X.base x C) (tk : Takes X W) (hr : Room 2 X.A) (hc : X.calm = true := by rfl) (hg : Gl X x := by rfl) (hdb : (x == ("__debug__" : Str)) = false := by decide)
    (he : starEach (e :: []) X.env = (false, eval e X.env) :: starEach [] X.env := by rfl) (hpl : (backTo pos (starEach [] X.env)).any (·.1) = false := by rfl)
    (h : WE X e σ H fun v H1 => ∀ d H', (∀ q u, H1 q = some u → H' q = some u) → (∀ q, H1 q ≠ none → H' q ≠ none) → H1 d = none → H' d = some (xv v) → W (.ref C) (some d) σ H') : WS X (.Raise (some (.Call (.Name x p) [e] [] pos)) none pos2) D σ H := by
  obtain ⟨fI, fd, F, hi, ht, hb⟩ := T.ini
  refine ⟨_, ps_raise hc tk (pmk_oex (es := []) (dvs := []) (ds := []) T.ox hi ht F hr hb .nil pass0 hg T.gC WA.pa hdb he hpl), ?_⟩
  refine a_cons he (h := WE.mono h fun v H1 hv => a_nil ?_)
  refine ⟨(by decide : 1 ≤ 1000), fun a ha => ⟨a, C, v, rfl, T.ox, T.nv, upd_same, fun dx h1 h2 => ⟨rfl, dx, [(("value" : Str), v)], upd_same, ?_, upd_none h1, ?_⟩⟩⟩
  · rw [upd_ne h2, upd_same]
  · have hd1 : H1 dx = none := upd_none h1
    have key : ∀ q u, H1 q = some u → upd (del (upd (upd (upd H1 a (exo a C none)) dx (exd dx [(("value" : Str), v)])) a (exo a C (some dx))) a) dx (xv v) q = some u := fun q u hq => by
      have n1 : q ≠ a := ne_of_none hq ha
      have n2 : q ≠ dx := ne_of_none hq hd1
      rw [upd_ne n2, del_ne n1, upd_ne n1, upd_ne n2, upd_ne n1]
      exact hq
    refine hv dx _ key (fun q hq => ?_) hd1 upd_same
    cases e' : H1 q with
    | none => exact absurd e' hq
    | some u =>
      rw [key q u e']
      exact fun z => nomatch z
/-- err.f in an except suite -/
theorem e_xf {a : Addr} {oe : Obj} {cls : Value} {d : Option Addr} {pn : List (Addr × Obj)} (T : XfC X.K C) (hno : PySem.W.findIn X.K (.ref C) f = some none) (hz : Zc cls d oe) (hf : ∃ vs, oe.data = .fields vs)
    (hb : attributeBase e f X.env (eval e X.env) = eval e X.env := by rfl) (h : WE (X.suite a ((a, oe) :: pn)) e σ H fun y H1 => y = .ref a ∧ cls = .ref C ∧ ∃ (dd : Addr) (fs : List (Str × V)) (v : V), d = some dd ∧ H1 dd = some (.xd fs) ∧ fs.lookup f = some v ∧ Q v H1) :
    WE (X.suite a ((a, oe) :: pn)) (.Attribute e f pos) σ H Q := ⟨_, pe_xf T hno hz hf WE.pe hb, h⟩
/-- the ends of an except suite whose error has the name in slot i -/
abbrev wipedAt (i : Nat) (D : Ends) : Ends := { nx := fun σ' H' => D.nx (σ'.set i none) H', rt := D.rt, bk := fun σ' H' => D.bk (σ'.set i none) H', ct := fun σ' H' => D.ct (σ'.set i none) H' }
/-- try: body / except x as n: suite -/
theorem s_tryAs (i : Nat) {n : Str} {np : Pos} {body suite : List Stmt} {b₀ : Stmt} {c : Addr} (hN : X.N.Nodup) (hm : X.mg x = some (.ref c)) (hs : X.stack = X.env :: X.outer := by rfl) (hf : X.env.frame = some X.env.locals := by rfl) (hi : X.N[i]? = some n := by rfl) (hln : X.env.kindOf n = some .local := by rfl)
    (hg : Gl X x := by rfl) (hdb : (x == ("__debug__" : Str)) = false := by decide)
    (h : ∀ (W : WX) (pn : List (Addr × Obj)) (xe : Value → Shared → Prop), Takes (X.tr pn xe) W → PassesOwn (model X.prog X.w) X.A X.env xe →
      (∀ (C dd : Addr) (σ' : L2.St) (H' : Hp), PySem.W.exmOne X.K (.ref C) (.ref c) = some true →
        (∀ (a : Addr) (oe : Obj) (pn : List (Addr × Obj)), Zc (.ref C) (some dd) oe → (∃ vs, oe.data = .fields vs) → H' a = none → WSs (X.suite a ((a, oe) :: pn)) (b₀ :: suite) (wipedAt i D) (σ'.set i (some (.ref a))) H') → W (.ref C) (some dd) σ' H') →
      WSs (X.tr pn xe) body D σ H) : WS X (.Try body [.ExceptHandler (some (.Name x np)) (some n) (b₀ :: suite) p'] [] [] pos) D σ H := by
  refine ⟨_, ps_try_as (i := i) (tb := fun W D σ H => ∀ pn xe, Takes (X.tr pn xe) W → PassesOwn (model X.prog X.w) X.A X.env xe → WSs (X.tr pn xe) body D σ H)
    (ts := fun a cls d D' σ' H' => ∀ (oe : Obj) (pn : List (Addr × Obj)), Zc cls d oe → (∃ vs, oe.data = .fields vs) → WSs (X.suite a ((a, oe) :: pn)) (b₀ :: suite) D' σ' H') (Wout := fun _ _ _ _ => False) hs hf hN hi hln ⟨hg, hdb, .inl hm⟩ takes0
    (fun W pn xe tk po => ⟨fun pins s σ H D I h => WSs.pss.run pins s σ H D I (h pn xe tk po)⟩) (fun a oe cls d pn hz hf' => ⟨fun pins s σ H D I h => WSs.pss.run pins s σ H D I (h oe pn hz hf')⟩), ?_⟩
  intro pn xe tk po
  exact h _ pn xe tk po fun C dd σ' H' te hsu => ⟨true, te, fun _ a ha oe pn hz hf' => hsu a oe pn hz hf' ha, fun z => nomatch z⟩
/-- n += e, ints -/
theorem s_augAdd (i : Nat) {n : Str} (hN : X.N.Nodup) (hi : X.N[i]? = some n := by rfl) (hx : Loc X.env.scope n := by first | exact Or.inl rfl | exact Or.inr rfl) (hf : X.fn n = true ∨ X.env.scope.names.lookup n = some .local := by first | exact .inl rfl | exact .inr rfl | assumption)
    (h : ∃ v, σ[i]? = some (some v) ∧ WE X e σ H fun y H1 => ∃ a b, v = .int a ∧ y = .int b ∧ D.nx (σ.set i (some (.int (a + b)))) H1) : WS X (.AugAssign (.Name n p') .Add e pos) D σ H := ⟨_, ps_aug hN hi hx WE.pe ip_add hf, h⟩
end

/-! ### zip of tuples -/
section
variable {K : PySem.W.Frag} {a b : Addr} {xs ys : List V}
theorem walk_zipT {n : Nat} (hn : n = min xs.length ys.length) : Walk (RZ.ItzT K a b) n (fun H => SqT K H a xs ∧ SqT K H b ys) (YPair (fun i => xs[i]?) (fun i => ys[i]?)) := by
  subst hn
  refine ⟨fun i _ hi q => ?_, fun _ q => ⟨xs, ys, q.1, q.2, by omega⟩, fun i H v H' _ q y => ?_⟩
  · have h1 : i < xs.length := by omega
    have h2 : i < ys.length := by omega
    exact ⟨xs, ys, xs[i], ys[i], q.1, q.2, by simp [h1], by simp [h2]⟩
  · obtain ⟨T, x, z, h1, h2, h3, h4, h5⟩ := y
    exact ⟨T, x, z, h1, h2, h3, h4 xs q.1, h5 ys q.2⟩
end
theorem i_zipT {X : Cx} {σ : L2.St} {H : Hp} {a b : Expr} {pos p2 : Pos} {R : It → Hp → Prop} {elts : List Expr} {kk : Nat} {tpos : Pos} (hm : X.mg "zip" = none) (hg : Gl X "zip" := by rfl) (hs : starEach [a, b] X.env = (false, eval a X.env) :: starEach [b] X.env := by rfl) (hpl : (backTo pos (starEach [b] X.env)).any (·.1) = false := by rfl)
    (h : WA X [a, b] σ H fun vs H1 => ∃ p q xs ys, vs = [.ref p, .ref q] ∧ SqT X.K H1 p xs ∧ SqT X.K H1 q ys ∧ R (RZ.ItzT X.K p q) H1) : WI X (.Tuple elts kk tpos) (.Call (.Name "zip" p2) [a, b] [] pos) σ H R := by
  exact ⟨_, RZ.pi_zipA hg hm WA.up hs hpl, _, h, fun vs H1 ⟨p, q, xs, ys, e, h1, h2, r⟩ => ⟨p, q, xs, ys, e, .inr ⟨h1, h2, r⟩⟩⟩

/-! ### defs of the text -/
def Fn (K : PySem.W.Frag) (mg : Str → Option Value) (x : Str) (st : Stmt) : Prop := ∃ f fd, Fun K x x st f fd ∧ mg x = some (.ref f)
section
variable {P : Program} {w : World} {K : PySem.W.Frag} {mg : Str → Option Value} {base : Heap} {x : Str} {st : Stmt} {N ps ks : List Str} {k : Nat} {sp : Sp}
abbrev BodyOk (P : Program) (w : World) (K : PySem.W.Frag) (mg : Str → Option Value) (base : Heap) (x : Str) (st : Stmt) (N : List Str) (k : Nat) (sp : Sp) : Prop :=
  ∀ (f : Addr) (cdv : Value) (A : Around) (outer : List Env) (s : Shared) (H : Hp) (vs : List V) (Q : VK) (E : XK), Room k (A.deeper (PyProof.Rows.envOfC x (defScope st) s.heap.objs.size f cdv)) → sp vs H Q E →
      WSs (cxOf CX0 P w K mg base N x (defScope st) f cdv A outer s H E).nox (defBody st) { nx := fun _ H' => Q .non H', rt := Q } (start N vs) H
/-- .. of a def that may raise -/
abbrev BodyOkX (P : Program) (w : World) (K : PySem.W.Frag) (mg : Str → Option Value) (base : Heap) (x : Str) (st : Stmt) (N : List Str) (k : Nat) (sp : Sp) : Prop :=
  ∀ (f : Addr) (cdv : Value) (A : Around) (outer : List Env) (s : Shared) (H : Hp) (vs : List V) (Q : VK) (E : XK), Room k (A.deeper (PyProof.Rows.envOfC x (defScope st) s.heap.objs.size f cdv)) → sp vs H Q E →
      Takes (cxOf (L2.CX P w) P w K mg base N x (defScope st) f cdv A outer s H E) (fun cls d _ H => E cls d H) → PassesOwn (model P w) (cxOf (L2.CX P w) P w K mg base N x (defScope st) f cdv A outer s H E).A (cxOf (L2.CX P w) P w K mg base N x (defScope st) f cdv A outer s H E).env (cxOf (L2.CX P w) P w K mg base N x (defScope st) f cdv A outer s H E).xe →
      WSs (cxOf (L2.CX P w) P w K mg base N x (defScope st) f cdv A outer s H E) (defBody st) { nx := fun _ H' => Q .non H', rt := Q } (start N vs) H
theorem ok_of (S : FnScope N ps (defScope st)) (len : ∀ vs H Q E, sp vs H Q E → vs.length = ps.length) (body : BodyOk P w K mg base x st N k sp) : ∀ f fd, Fun K x x st f fd → FnOk P w K mg base CX0 (k + 1) f fd ps sp :=
  fun f fd F => F.ok S len (body f)
theorem okX_of (S : FnScope N ps (defScope st)) (len : ∀ vs H Q E, sp vs H Q E → vs.length = ps.length) (body : BodyOkX P w K mg base x st N k sp) : ∀ f fd, Fun K x x st f fd → FnOk P w K mg base (L2.CX P w) (k + 1) f fd ps sp :=
  fun f fd F => F.okX S len fun cdv A outer s H vs Q E hr hsp => body f cdv A outer s H vs Q E hr hsp (takes_of rfl rfl rfl rfl) (passes_of rfl)
theorem cal_fn (d : Fn K mg x st) (ok : ∀ f fd, Fun K x x st f fd → FnOk P w K mg base CX0 k f fd ps sp)
    (hb : ∀ (kV doc pm : Value) (an : Option Addr) (cdv ct : Value) (us : List Value), us.length = ps.length → bindArgs (PySem.W.fnOf x x (defArgs st) (defBody st) (defScope st) .none kV doc pm an cdv ct) ⟨us, []⟩ = pure (ps.zip us)) : Cal P w K mg base x k ps sp := by
  obtain ⟨f, fd, F, hm⟩ := d
  exact ⟨f, fd, ok f fd F, hm, F.kp, F.binds hb⟩
theorem calX_fn (d : Fn K mg x st) (ok : ∀ f fd, Fun K x x st f fd → FnOk P w K mg base (L2.CX P w) k f fd ps sp)
    (hb : ∀ (kV doc pm : Value) (an : Option Addr) (cdv ct : Value) (us : List Value), us.length = ps.length → bindArgs (PySem.W.fnOf x x (defArgs st) (defBody st) (defScope st) .none kV doc pm an cdv ct) ⟨us, []⟩ = pure (ps.zip us)) : CalX P w K mg base x k ps sp := by
  obtain ⟨f, fd, F, hm⟩ := d
  exact ⟨f, fd, ok f fd F, hm, F.kp, F.binds hb⟩
theorem calK_fn (g : {α : Type} → List α → List α) (d : Fn K mg x st) (ok : ∀ f fd, Fun K x x st f fd → FnOk P w K mg base CX0 k f fd ps sp) (hg : ∀ {vs : List V} {us : List Value}, Vals vs us → Vals (g vs) (g us))
    (hb : ∀ (kV doc pm : Value) (an : Option Addr) (cdv ct : Value) (ws : List Value), ws.length = ks.length → bindArgs (PySem.W.fnOf x x (defArgs st) (defBody st) (defScope st) .none kV doc pm an cdv ct) ⟨[], ks.zip ws⟩ = pure (ps.zip (g ws))) : CalK P w K mg base x k ps ks g sp := by
  obtain ⟨f, fd, F, hm⟩ := d
  refine ⟨f, fd, fun _ ws => g ws, ok f fd F, hm, F.kp, ⟨fun s us ws _ l1 l2 => ?_, fun _ r => hg r⟩⟩
  have e : us = [] := List.length_eq_zero_iff.mp l1
  subst e
  obtain ⟨oc, od, kV, doc, pm, an, cdv, ct, osl, rfl, lk, hcd⟩ := F.ex
  exact BindsTo.of_eq (hb kV doc pm an cdv ct ws l2)
theorem calKX_fn (g : {α : Type} → List α → List α) (d : Fn K mg x st) (ok : ∀ f fd, Fun K x x st f fd → FnOk P w K mg base (L2.CX P w) k f fd ps sp) (hg : ∀ {vs : List V} {us : List Value}, Vals vs us → Vals (g vs) (g us))
    (hb : ∀ (kV doc pm : Value) (an : Option Addr) (cdv ct : Value) (ws : List Value), ws.length = ks.length → bindArgs (PySem.W.fnOf x x (defArgs st) (defBody st) (defScope st) .none kV doc pm an cdv ct) ⟨[], ks.zip ws⟩ = pure (ps.zip (g ws))) : CalKX P w K mg base x k ps ks g sp := by
  obtain ⟨f, fd, F, hm⟩ := d
  refine ⟨f, fd, fun _ ws => g ws, ok f fd F, hm, F.kp, ⟨fun s us ws _ l1 l2 => ?_, fun _ r => hg r⟩⟩
  have e : us = [] := List.length_eq_zero_iff.mp l1
  subst e
  obtain ⟨oc, od, kV, doc, pm, an, cdv, ct, osl, rfl, lk, hcd⟩ := F.ex
  exact BindsTo.of_eq (hb kV doc pm an cdv ct ws l2)
end
end Lw
namespace Lw
open PySem L2 Evl
/-! ### what many defs hand back -/
/-- a new list of such data, the caller's | data that stay -/
def RetL {β : Type} [DecidableEq β] [Dat β] (K : PySem.W.Frag) (B H : Hp) (Q : VK) (ys : List β) : Prop := ∀ D B' H' acc, Gr M0 B H B' H' → B' D = none → H D = none → H' D = some (.lst acc) → Das K B' acc ys → Q (.ref D) H'
def RetD {β : Type} [DecidableEq β] [Dat β] (K : PySem.W.Frag) (B H : Hp) (Q : VK) (y : β) : Prop := ∀ v B' H', Gr M0 B H B' H' → Dt K B' v y → Q v H'
theorem RetD.l {K : PySem.W.Frag} {β : Type} [DecidableEq β] [Dat β] {B H : Hp} {Q : VK} {ys : List β} (h : RetD K B H Q ys) : RetL K B H Q ys := fun D B' H' acc g b h0 e d =>
  h (.ref D) (upd B' D (.lst acc)) H' (g.learn h0 b e) (dtL (SqL.of upd_same) (d.mono (Ex.new b)))
/-- an error with a number, raised when all that was tracked stands as it was -/
def Rai (C : Addr) (H : Hp) (E : XK) (n : Int) : Prop := ∀ d H', Ex H H' → H d = none → H' d = some (xv (.int n)) → E (.ref C) (some d) H'
theorem Rai.up {C : Addr} {H H1 : Hp} {E : XK} {n : Int} (h : Rai C H E n) (e : Ex H H1) : Rai C H1 E n := fun d H' e' hd hx => h d H' (e.trans e') (fresh_back e hd) hx
theorem gr_ex {B H H' : Hp} (k : Ex B H) (e : Ex H H') : Gr M0 B H B H' := by
  refine ⟨.refl B, k.trans e, fun a o _ h => e a o h, fun a h => ?_, fun a h _ => h⟩
  cases q : H a with
  | none => exact absurd q h
  | some u => rw [e a u q]; exact fun z => nomatch z
/-! ### pairs of ints -/
abbrev I2 := Int × Int
section
variable {K : PySem.W.Frag} {B : Hp} {v : V}
theorem dt_i2 {p : I2} (h : Dt K B v p) : ∃ a, v = .ref a ∧ SqT K B a [.int p.1, .int p.2] := by
  obtain ⟨a, y, z, e, hT, d1, d2⟩ := dt_pair h
  cases dt_int d1
  cases dt_int d2
  exact ⟨a, e, hT⟩
theorem dtI2 {a : Addr} {x y : Int} (h : SqT K B a [.int x, .int y]) : Dt K B (.ref a) ((x, y) : I2) := dtP h (dtI x) (dtI y)
end
/-! ### Python's max, min, abs -/
theorem py_max (i j : Int) : (if j > i then j else i) = max i j := by split <;> omega
theorem py_min (i j : Int) : (if j < i then j else i) = min i j := by split <;> omega
theorem py_abs (i : Int) : (if i < 0 then -i else i) = (i.natAbs : Int) := by split <;> omega
theorem sq_int {n : Nat} {i : Int} (h : i.natAbs < n) (m : Nat) (hm : n ≤ m) : i.natAbs < m := Nat.lt_of_lt_of_le h hm
/-! ### isinstance of what is read -/
theorem tyx_t {K : PySem.W.Frag} {H : Hp} {a : Addr} {xs : List V} (h : SqT K H a xs) : TyX K H (.ref a) (.type "tuple") := by
  rcases h with (h | ⟨o, h⟩) | ⟨o, its, n, h1, h2, _⟩
  · exact .base (.tup h)
  · exact .fTuple h
  · exact .kTuple h1 h2
theorem tyx_l {K : PySem.W.Frag} {H : Hp} {a : Addr} {xs : List V} (h : SqL K H a xs) : TyX K H (.ref a) (.type "list") := by
  rcases h with (h | ⟨o, h⟩) | ⟨o, its, n, h1, h2, _⟩
  · exact .base (.lst h)
  · exact .base (.frz h)
  · exact .kList h1 h2
/-- len(range(i, j)) -/
theorem call_lenRng {X : Cx} : CallR X (.builtin "len") (fun xs H Q => ∃ (p : Addr) (i j : Int), xs = [.ref p] ∧ H p = some (.rng i j) ∧ j - i < 2 ^ 62 ∧ Q (.int ((j - i).toNat : Nat)) H) := by
  intro pins s σ H xs us Q I r h
  obtain ⟨p, i, j, rfl, hp, hl, q⟩ := h
  obtain ⟨u1, rfl, r1⟩ := vals1 r
  cases (show u1 = Value.ref p from r1)
  have hx : ObjOk X.prog X.w H s.heap p (.rng i j) := I.hok p _ hp
  obtain ⟨t, u, v, e⟩ := hx
  exact call_len_range e (PyProof.Rows.rangeSize_nat i j) (by omega) ⟨.int _, H, I.tok _, ⟨_, rfl⟩, q⟩
theorem bnm_range : bootBuiltins "range" = some (.type "range") := by decide +kernel
theorem bnm_list : bootBuiltins "list" = some (.type "list") := by decide +kernel
theorem bnm_tuple : bootBuiltins "tuple" = some (.type "tuple") := by decide +kernel
theorem bnm_bool : bootBuiltins "bool" = some (.type "bool") := by decide +kernel
theorem bnm_int : bootBuiltins "int" = some (.type "int") := by decide +kernel
theorem fm_map {α β : Type} (f : α → β) : ∀ l : List α, l.filterMap (fun a => some (f a)) = l.map f
  | [] => rfl
  | a :: l => by rw [List.filterMap_cons, fm_map f l]; rfl
end Lw
namespace Lw
open PySem L2 Evl
/-! ### what the top leaves -/
theorem fn_mk {K : PySem.W.Frag} {mg : Str → Option Value} {x : Str} {st : Stmt} {f : Addr} {h : Heap} {oc : Value} {od an : Option Addr} {osl : Array (Option Value)} {kV doc pm cdv ct : Value} (X : K.In h) (G : h.Ns mainGlobals mg) (a : PySem.W.nsIn K mainGlobals x = some (some (.ref f)))
    (l : K.lookup f = some ⟨oc, od, .func (PySem.W.fnOf x x (defArgs st) (defBody st) (defScope st) .none kV doc pm an cdv ct), osl⟩) (c : PySem.W.codeIn K cdv x = true) (k : PySem.W.keepIn K (.ref f) = true) : Fn K mg x st := ⟨f, _, fun_mk l c k, PySem.W.mg_of X G a⟩
def FnK (K : PySem.W.Frag) (x : Str) (st : Stmt) : Prop := ∃ (f : Addr) (oc : Value) (od an : Option Addr) (osl : Array (Option Value)) (kV doc pm cdv ct : Value), PySem.W.nsIn K mainGlobals x = some (some (.ref f)) ∧
  K.lookup f = some ⟨oc, od, .func (PySem.W.fnOf x x (defArgs st) (defBody st) (defScope st) .none kV doc pm an cdv ct), osl⟩ ∧ PySem.W.codeIn K cdv x = true ∧ PySem.W.keepIn K (.ref f) = true
theorem fnK_mk {K : PySem.W.Frag} {x : Str} {st : Stmt} {f : Addr} {oc : Value} {od an : Option Addr} {osl : Array (Option Value)} {kV doc pm cdv ct : Value} (a : PySem.W.nsIn K mainGlobals x = some (some (.ref f)))
    (l : K.lookup f = some ⟨oc, od, .func (PySem.W.fnOf x x (defArgs st) (defBody st) (defScope st) .none kV doc pm an cdv ct), osl⟩) (c : PySem.W.codeIn K cdv x = true) (k : PySem.W.keepIn K (.ref f) = true) : FnK K x st := ⟨f, oc, od, an, osl, kV, doc, pm, cdv, ct, a, l, c, k⟩
theorem FnK.fn {K : PySem.W.Frag} {mg : Str → Option Value} {h : Heap} {x : Str} {st : Stmt} (F : FnK K x st) (X : K.In h) (G : h.Ns mainGlobals mg) : Fn K mg x st := by
  obtain ⟨f, oc, od, an, osl, kV, doc, pm, cdv, ct, a, l, c, k⟩ := F
  exact fn_mk X G a l c k
/-! ### error classes as the top leaves them -/
/-- what except says of an error's class and the clause's -/
theorem exm_by {K : PySem.W.Frag} {S T : Addr} {b : Bool} (h1 : PySem.W.subIn K (.ref T) (.type "BaseException") = some true) (h2 : PySem.W.isClsIn K T = true) (h3 : PySem.W.typeIn K (.ref T) = some (.type "type")) (h4 : PySem.W.subIn K (.ref S) (.ref T) = some b) : PySem.W.exmOne K (.ref S) (.ref T) = some b := by
  unfold PySem.W.isClsIn at h2
  unfold PySem.W.exmOne PySem.W.kitCls
  simp only [h1, h2, h3, h4, beq_self_eq_true, Bool.and_self, if_true]
/-- the class x stands at C; its __init__ is the def st -/
structure ErrK (K : PySem.W.Frag) (x : Str) (st : Stmt) (C : Addr) : Prop where
  gC : PySem.W.nsIn K mainGlobals x = some (some (.ref C))
  ox : OexC K C
  xf : XfC K C
  nv : PySem.W.findIn K (.ref C) "value" = some none
  te : PySem.W.exmOne K (.ref C) (.ref C) = some true
  ini : ∃ fI fd, Fun K "__init__" "WindowError.__init__" st fI fd ∧ PySem.W.findIn K (.ref C) "__init__" = some (some (.ref fI)) ∧ PySem.W.typeIn K (.ref fI) = some (.type "function")
theorem errK_mk {K : PySem.W.Frag} {x : Str} {st : Stmt} {C f : Addr} {nm q : Str} {N : Addr} {bs : List Value} {rs : List Value} {sn : List Str} {sub : List Value} {ab : Bool} {col : Option Bool} {dd : Option Addr} {m0 m1 m2 m3 m5 : Option Value}
    {oc : Value} {od an : Option Addr} {osl : Array (Option Value)} {kV doc pm cdv ct : Value} (gC : PySem.W.nsIn K mainGlobals x = some (some (.ref C)))
    (cl : K.lookup C = some (excClassObj nm q C N bs rs true sn sub ab col dd m0 m1 m2 m3 m5 "ValueError.__new__")) (rv : PySem.HandSPX.refsVE rs = true)
    (sa : PySem.W.findIn K (.ref C) "__setattr__" = some (some (.builtin "object.__setattr__"))) (ex : PySem.W.subIn K (.ref C) (.type "BaseException") = some true) (ty : PySem.W.typeIn K (.ref C) = some (.type "type")) (kC : PySem.W.keepIn K (.ref C) = true)
    (ga : PySem.W.findIn K (.ref C) "__getattribute__" = some (some (.builtin "BaseException.__getattribute__"))) (gg : PySem.W.findIn K (.ref C) "__getattr__" = some none) (hd : PySem.W.hasDictIn K C = true) (nv : PySem.W.findIn K (.ref C) "value" = some none)
    (ic : PySem.W.isClsIn K C = true) (ss : PySem.W.subIn K (.ref C) (.ref C) = some true) (ii : PySem.W.findIn K (.ref C) "__init__" = some (some (.ref f))) (it : PySem.W.typeIn K (.ref f) = some (.type "function"))
    (l : K.lookup f = some ⟨oc, od, .func (PySem.W.fnOf "__init__" "WindowError.__init__" (defArgs st) (defBody st) (defScope st) .none kV doc pm an cdv ct), osl⟩) (c : PySem.W.codeIn K cdv "WindowError.__init__" = true) (k : PySem.W.keepIn K (.ref f) = true) : ErrK K x st C := by
  exact ⟨gC, ⟨⟨nm, q, N, bs, rs, sn, sub, ab, col, dd, m0, m1, m2, m3, m5, cl, rv⟩, sa, ex, ty, kC⟩, ⟨ga, gg, ex, hd⟩, nv, exm_by ex ic ty ss, f, _, fun_mk l c k, ii, it⟩
structure ErrM (K : PySem.W.Frag) (mg : Str → Option Value) (x : Str) (st : Stmt) (C : Addr) : Prop where
  gC : mg x = some (.ref C)
  k : ErrK K x st C
theorem ErrK.at_ {K : PySem.W.Frag} {mg : Str → Option Value} {h : Heap} {x : Str} {st : Stmt} {C : Addr} (E : ErrK K x st C) (X : K.In h) (G : h.Ns mainGlobals mg) : ErrM K mg x st C := ⟨PySem.W.mg_of X G E.gC, E⟩
theorem ErrM.ex {P : Program} {w : World} {K : PySem.W.Frag} {mg : Str → Option Value} {base : Heap} {x : Str} {st : Stmt} {C : Addr} (E : ErrM K mg x st C) (ok : ∀ f fd, Fun K "__init__" "WindowError.__init__" st f fd → FnOk P w K mg base CX0 1 f fd ["self", "value"] (sp_wi K))
    (hb : ∀ (kV doc pm : Value) (an : Option Addr) (cdv ct : Value) (us : List Value), us.length = (["self", "value"] : List Str).length → bindArgs (PySem.W.fnOf "__init__" "WindowError.__init__" (defArgs st) (defBody st) (defScope st) .none kV doc pm an cdv ct) ⟨us, []⟩ = pure ((["self", "value"] : List Str).zip us)) : ExC P w K mg base x C := by
  obtain ⟨fI, fd, F, i, t⟩ := E.k.ini
  exact ⟨E.gC, E.k.ox, E.k.xf, E.k.nv, E.k.te, fI, fd, ok _ _ F, i, t, F.binds hb⟩
end Lw
namespace Lw
open PySem PySem.Spec PyProof.Rows L2 Evl
section
variable {X : Cx} {σ : L2.St} {H : Hp} {Q : VK} {D : Ends} {a b e o i c : Expr} {p p' pos pos2 tpos : Pos}
/-- xs[i] by values -/
theorem get_list : PGet X (rIxL X.K) := by
  intro pins s σ H x y v u Q I rx ry h
  obtain ⟨p, xs, i, z, rfl, rfl, hq, he, q⟩ := h
  cases rx
  obtain ⟨t, rfl⟩ := ry
  obtain ⟨its, r, pl, hz⟩ := I.list hq
  obtain ⟨j, h1, h2, h3, h4, h5⟩ := atI_get he
  obtain ⟨w, ew, rw'⟩ := r.get h2
  have hl := r.length
  have hn := line63
  have fin : EP X pins σ Q w s := ⟨z, H, I, rw', q⟩
  by_cases h0 : 0 ≤ i
  · have hj : i.toNat = j := by
      rw [seqIndex_of h0 h5] at h1
      exact Option.some.inj h1
    exact wpAny_getItem_list pl.isList h0 (by omega) (by rw [hj]; simpa using ew) fin
  · have hj : (i + (its.toArray.size : Int)).toNat = j := by
      rw [seqIndex_neg (by omega) h4] at h1
      rw [List.size_toArray, ← hl]
      exact Option.some.inj h1
    exact wpAny_getItem_list_neg pl.isList (by omega) (by rw [List.size_toArray] <;> omega) (by omega) (by rw [hj]; simpa using ew) fin
/-- xs[i] += e, ints -/
theorem s_augItem (h : tAugS (Lw.WE X o) (Lw.WE X i) (Lw.WE X e) (rIxL X.K) (ipI fun i j => i + j) rSetL D σ H)
    (ha : ∀ ov iv new, augStore i ov iv new = (do holding [new, ov, iv] (setItem ov iv new); release [new, ov, iv] []; pure .next) := by intros; rfl) : WS X (.AugAssign (.Subscript o i tpos) .Add e pos) D σ H :=
  ⟨_, ps_augS Lw.WE.pe Lw.WE.pe get_list Lw.WE.pe ip_add set_list ha, h⟩
theorem WT.mono {QT QT' : Bool → Hp → Prop} (h : WT X c σ H QT) (hq : ∀ b H, QT b H → QT' b H) : WT X c σ H QT' :=
  ⟨fun σ H Q' => ∃ Q, WT X c σ H Q ∧ ∀ b H, Q b H → Q' b H, ⟨fun pins s σ H Q' I h' => by
    obtain ⟨Q, h1, h2⟩ := h'
    exact thn (WT.pt.run pins s σ H Q I h1) fun d s1 ⟨H1, I1, q⟩ => ⟨H1, I1, h2 _ _ q⟩⟩, QT, h, hq⟩
/-- while, by an invariant and a measure -/
theorem s_while {body : List Stmt} (Pv : L2.St → Hp → Prop) (μ : L2.St → Hp → Nat) (h0 : Pv σ H)
    (hs : ∀ σ H, Pv σ H → WT X c σ H fun b H1 => if b = true then WSs X body { D with nx := fun σ' H' => Pv σ' H' ∧ μ σ' H' < μ σ H, ct := fun σ' H' => Pv σ' H' ∧ μ σ' H' < μ σ H, bk := D.nx } σ H1 else D.nx σ H1)
    (hp : PassesOwn (model X.prog X.w) X.A X.env X.xe := by exact PassesOwn.never) : WS X (.While c body [] pos) D σ H :=
  ⟨_, ps_while hp WT.pt WSs.pss, while_by Pv μ h0 hs fun σ H Q Q' hq h => WT.mono h hq⟩
end
/-! ### slices of ints -/
theorem cut_to {ns : List Int} {k : Nat} (h : k ≤ ns.length) : cutV (ns.map V.int) none (some (k : Int)) = (ns.take k).map V.int := by
  unfold cutV
  rw [HT.sIx_none, HT.sIx_nat, List.length_map, Nat.min_eq_left h, List.drop_zero, Nat.sub_zero, List.map_take]
theorem cut_from {ns : List Int} {k : Nat} (h : k ≤ ns.length) : cutV (ns.map V.int) (some (k : Int)) none = (ns.drop k).map V.int := by
  unfold cutV
  rw [HT.sIx_none, HT.sIx_nat, List.length_map, Nat.min_eq_left h, ← List.map_drop, ← List.map_take, List.take_of_length_le (by rw [List.length_drop]; exact Nat.le_refl _)]
theorem cut_mid {ns : List Int} {i j : Nat} (h : i ≤ j) (h2 : j ≤ ns.length) : cutV (ns.map V.int) (some (i : Int)) (some (j : Int)) = ((ns.drop i).take (j - i)).map V.int := by
  unfold cutV
  rw [HT.sIx_nat, HT.sIx_nat, List.length_map, Nat.min_eq_left h2, Nat.min_eq_left (Nat.le_trans h h2), List.map_take, List.map_drop]
/-- xs[:k], k perhaps beyond -/
theorem cut_upto {ns : List Int} {k : Nat} : cutV (ns.map V.int) none (some (k : Int)) = (ns.take k).map V.int := by
  unfold cutV
  rw [HT.sIx_none, HT.sIx_nat, List.length_map, List.drop_zero, Nat.sub_zero, ← List.map_take]
  congr 1
  by_cases h : k ≤ ns.length
  · rw [Nat.min_eq_left h]
  · rw [Nat.min_eq_right (by omega), List.take_of_length_le (Nat.le_refl _), List.take_of_length_le (by omega)]
theorem emptyV (ns : List Int) : (ns.map V.int).isEmpty = ns.isEmpty := by cases ns <;> rfl
theorem at_map {ns : List Int} {i : Nat} {n : Int} (h : ns[i]? = some n) : (ns.map V.int)[i]? = some (.int n) := by rw [List.getElem?_map, h]; rfl
end Lw
/-! except clauses with names, one after the other; a def in a local name. -/
namespace Lw
open PySem PySem.Spec PyProof.Rows L2 Evl
/-- a clause: its class, the slot of its name, what its suite wishes -/
structure Cl where
  c : Value
  i : Nat
  ts : Addr → Value → Option Addr → TS
def wCls (K : PySem.W.Frag) (Wout : WX) (D : Ends) : List Cl → WX
  | [] => Wout
  | q :: r => fun cls d σ H => ∃ b, PySem.W.exmOne K cls q.c = some b ∧ (b = true → ∀ a, H a = none → q.ts a cls d (wipedAt q.i D) (σ.set q.i (some (.ref a))) H) ∧ (b = false → wCls K Wout D r cls d σ H)
inductive Cls (X : Cx) : List ExceptHandler → List Cl → Prop
  | nil : Cls X [] []
  | cons {x n : Str} {q : Cl} {b₀ : Stmt} {suite : List Stmt} {np pos : Pos} {hds : List ExceptHandler} {l : List Cl} (hc : Names X x q.c) (hi : X.N[q.i]? = some n) (hln : X.env.kindOf n = some .local)
      (hsu : ∀ (a : Addr) (oe : Obj) (cls : Value) (d : Option Addr) (pn : List (Addr × Obj)), Zc cls d oe → (∃ vs, oe.data = .fields vs) → PSs (X.suite a ((a, oe) :: pn)) (b₀ :: suite) (q.ts a cls d)) (r : Cls X hds l) :
      Cls X (.ExceptHandler (some (.Name x np)) (some n) (b₀ :: suite) pos :: hds) (q :: l)
section
variable {X : Cx} {body : List Stmt} {h₀ : ExceptHandler} {hds : List ExceptHandler} {l : List Cl} {pos : Pos} {tb : WX → TS} {Wout : WX}
theorem ps_try_cls (hs : X.stack = X.env :: X.outer) (hf : X.env.frame = some X.env.locals) (hN : X.N.Nodup) (tk : Takes X Wout)
    (hb : ∀ (W : WX) (pn : List (Addr × Obj)) (xe : Value → Shared → Prop), Takes (X.tr pn xe) W → PassesOwn (model X.prog X.w) X.A X.env xe → PSs (X.tr pn xe) body (tb W))
    (hh : Cls X (h₀ :: hds) l) : PS X (.Try body (h₀ :: hds) [] [] pos) (fun D σ H => tb (wCls X.K Wout D l) D σ H) := by
  refine ⟨fun pins s σ H D I h => ?_⟩
  have ok := I.ok
  have frames : X.A.frames = some (X.env :: X.outer) := by rw [ok.frames, hs]
  refine wpAny_Try_except (wpAny_mono ((hb (wCls X.K Wout D l) (X.pn ++ pins) (fun e s₁ => wpAny (model X.prog X.w) X.A (noteFrame e X.env) (fun _ s₂ => wpAny (model X.prog X.w) X.A (setFlight e none) (fun _ s₃ =>
    wpAny (model X.prog X.w) X.A (handleBy e X.env (h₀ :: hds)) (SP X pins D) X.xe s₃) X.xe s₂) X.xe s₁) (fun u s' caught => ?_) PassesOwn.looking).run [] s σ H D (I.toTry _) h) (fun f s1 done => ?_) (fun e s1 he => he))
  · obtain ⟨a, B, sI, pins', σ', H', cls, d, rfl, J', nb, up, sky, na, os, ag, w⟩ := caught
    have J : Inv X pins σ' H' sI := J'.ofTry ok
    show wpAny (model X.prog X.w) X.A (noteFrame (.ref a) X.env) _ _ _
    refine Sky.land Zc.steady frames hf (by rw [← hs]; exact sky) fun h3 fl3 up3 => ?_
    have J3 : Inv X pins σ' H' { s' with heap := h3 } := J.landed nb fl3.1 (up.trans up3) os ag
    obtain ⟨oe3, vs3, he3, hz3, hd3⟩ := fl3.there
    have out : a ∉ frs (X.env :: X.outer) := fun hm => by
      obtain ⟨_, o', e', hnf⟩ := fl3.2.2.1.mem hm
      cases he3.symm.trans e'
      exact hnf _ hd3
    have nL : a ≠ X.env.locals := fun z => out (List.mem_filterMap.mpr ⟨X.env, List.mem_cons_self, by rw [hf, z]⟩)
    have nF : a ∉ X.fs := fun hm => by
      obtain ⟨e, he, q⟩ := List.mem_filterMap.mp hm
      exact out (List.mem_filterMap.mpr ⟨e, List.mem_cons_of_mem _ he, q⟩)
    have S3 := J3.suite he3 hd3 na nL nF
    suffices key : ∀ {hs' : List ExceptHandler} {l' : List Cl}, Cls X hs' l' → wCls X.K Wout D l' cls d σ' H' → wpAny (model X.prog X.w) X.A (handleBy (.ref a) X.env hs') (SP X pins D) X.xe { s' with heap := h3 } from key hh w
    intro hs' l' hk
    induction hk with
    | nil =>
      intro w
      refine wpAny_handleBy_nil ?_
      obtain ⟨k1, k2, k3, oe, vs, T, oT, ts', he, hz, hd, h1, hr⟩ := id fl3
      unfold PySem.passOn
      refine wpAny_bind (wpAny_field he hd h1 ?_)
      rw [if_neg (show ¬ ((Value.ref T == Value.none) = true) from by simp)]
      have on : wpAny (model X.prog X.w) X.A (setFlight (.ref a) X.env.frame) (fun _ s4 => wpAny (model X.prog X.w) X.A (throw (.ref a) : Sem Flow) (SP X pins D) X.xe s4) X.xe { s' with heap := h3 } := by
        rw [hf]
        exact HandSPX.setFlight_upZ fl3 fun h4 hh4 up4 => wpAny_throw (tk _ _ ⟨a, B, sI, pins, σ', H', cls, d, rfl, J, nb, (up.trans up3).trans up4, .inr (.inr (by rw [hs]; exact hh4)), na, os, ag, w⟩)
      first
        | exact wpAny_bind (wpAny_pure (wpAny_bind on))
        | exact wpAny_bind on
    | @cons x n q b₀ suite np pos' hds2 l2 hc hi hln hsu r ih =>
      intro w
      obtain ⟨b, hb1, yes, no⟩ := w
      refine wpAny_handleBy_cons (codeAny_handlers_test ?_) (by intro q; cases q)
      have looks : PySem.W.Looks (model X.prog X.w) h3 (typeOf (.ref a)) cls := fun A Q E s k q => wpAny_typeOf_ref (k _ _ he3) (by rw [hz3.1]; exact q)
      have test : ∀ {Q : Value → Shared → Prop} {E : Value → Shared → Prop}, Q q.c { s' with heap := h3 } → wpAny (model X.prog X.w) (X.A.mark (some (.ref a))) (eval (.Name x np) X.env) Q E { s' with heap := h3 } := fun {Q E} z => by
        obtain ⟨hg, hdbg, hm | ⟨hm, hv, hnn⟩⟩ := hc
        · exact ld_glob (X := X.suite a ((a, oe3) :: (X.pn ++ pins))) S3 hg hm z hdbg
        · exact ld_blt (X := X.suite a ((a, oe3) :: (X.pn ++ pins))) S3 hg hm hv z hnn hdbg
      refine test ((PySem.W.exm_one (M := model X.prog X.w) (J3.kIn) looks hb1).here ?_)
      cases b with
      | false =>
        show wpAny (model X.prog X.w) X.A (handleBy (.ref a) X.env hds2) _ _ _
        exact ih (no rfl)
      | true =>
        refine codeAny_handlers_suite_as (HandSPX.lands_againZ fl3 fun h4 fl4 up4 => ?_)
        have J4 : Inv X pins σ' H' { s' with heap := h4 } := J.landed nb fl4.1 ((up.trans up3).trans up4) os ag
        obtain ⟨oe4, vs4, he4, hz4, hd4⟩ := fl4.there
        refine store_ok (X := X.suite a ((a, oe4) :: (X.pn ++ pins))) (v := .ref a) (J4.suite he4 hd4 na nL nF) hN hi (.inl hln) rfl (fun s5 S5 => ?_) (.inr hln)
        refine wpAny_mono ((hsu a oe4 cls d (X.pn ++ pins) hz4 ⟨_, hd4⟩).run [] s5 _ H' _ S5 (yes rfl a na)) (fun f s6 e6 => ?_) (fun _ _ z => False.elim z)
        cases f with
        | ret u =>
          obtain ⟨v6, σ6, H6, S6, r6, q6⟩ := e6
          exact gone_ok (S6.unsuite ok) hN hi hln fun s7 J7 => ⟨_, _, _, J7, r6, q6⟩
        | next =>
          obtain ⟨σ6, H6, S6, q6⟩ := e6
          exact gone_ok (S6.unsuite ok) hN hi hln fun s7 J7 => ⟨_, _, J7, q6⟩
        | brk =>
          obtain ⟨σ6, H6, S6, q6⟩ := e6
          exact gone_ok (S6.unsuite ok) hN hi hln fun s7 J7 => ⟨_, _, J7, q6⟩
        | cont =>
          obtain ⟨σ6, H6, S6, q6⟩ := e6
          exact gone_ok (S6.unsuite ok) hN hi hln fun s7 J7 => ⟨_, _, J7, q6⟩
  · cases f with
    | next =>
      obtain ⟨σ', H', J', q⟩ := done
      exact wpAny_execs_nil ⟨σ', H', J'.ofTry ok, q⟩
    | brk =>
      obtain ⟨σ', H', J', q⟩ := done
      exact ⟨σ', H', J'.ofTry ok, q⟩
    | cont =>
      obtain ⟨σ', H', J', q⟩ := done
      exact ⟨σ', H', J'.ofTry ok, q⟩
    | ret u =>
      obtain ⟨v, σ', H', J', r, q⟩ := done
      exact ⟨v, σ', H', J'.ofTry ok, r, q⟩
end
section
variable {X : Cx} {σ : L2.St} {H : Hp} {D : Ends} {n x1 x2 : Str} {np1 np2 pos pos1 pos2 : Pos} {body s1 s2 : List Stmt} {b1 b2 : Stmt} {c1 c2 : Addr}
/-- try: body / except x1 as n: .. / except x2 as n: .. -/
theorem s_tryAs2 (i : Nat) (hN : X.N.Nodup) (hm1 : X.mg x1 = some (.ref c1)) (hm2 : X.mg x2 = some (.ref c2)) (hs : X.stack = X.env :: X.outer := by rfl) (hf : X.env.frame = some X.env.locals := by rfl) (hi : X.N[i]? = some n := by rfl) (hln : X.env.kindOf n = some .local := by rfl)
    (hg1 : Gl X x1 := by rfl) (hdb1 : (x1 == ("__debug__" : Str)) = false := by decide) (hg2 : Gl X x2 := by rfl) (hdb2 : (x2 == ("__debug__" : Str)) = false := by decide)
    (h : ∀ (W : WX) (pn : List (Addr × Obj)) (xe : Value → Shared → Prop), Takes (X.tr pn xe) W → PassesOwn (model X.prog X.w) X.A X.env xe →
      (∀ (C dd : Addr) (σ' : L2.St) (H' : Hp), PySem.W.exmOne X.K (.ref C) (.ref c1) = some true →
        (∀ (a : Addr) (oe : Obj) (pn : List (Addr × Obj)), Zc (.ref C) (some dd) oe → (∃ vs, oe.data = .fields vs) → H' a = none → WSs (X.suite a ((a, oe) :: pn)) (b1 :: s1) (wipedAt i D) (σ'.set i (some (.ref a))) H') → W (.ref C) (some dd) σ' H') →
      (∀ (C dd : Addr) (σ' : L2.St) (H' : Hp), PySem.W.exmOne X.K (.ref C) (.ref c1) = some false → PySem.W.exmOne X.K (.ref C) (.ref c2) = some true →
        (∀ (a : Addr) (oe : Obj) (pn : List (Addr × Obj)), Zc (.ref C) (some dd) oe → (∃ vs, oe.data = .fields vs) → H' a = none → WSs (X.suite a ((a, oe) :: pn)) (b2 :: s2) (wipedAt i D) (σ'.set i (some (.ref a))) H') → W (.ref C) (some dd) σ' H') →
      WSs (X.tr pn xe) body D σ H) : WS X (.Try body [.ExceptHandler (some (.Name x1 np1)) (some n) (b1 :: s1) pos1, .ExceptHandler (some (.Name x2 np2)) (some n) (b2 :: s2) pos2] [] [] pos) D σ H := by
  refine ⟨_, ps_try_cls (tb := fun W D σ H => ∀ pn xe, Takes (X.tr pn xe) W → PassesOwn (model X.prog X.w) X.A X.env xe → WSs (X.tr pn xe) body D σ H)
    (l := [⟨.ref c1, i, fun a cls d D' σ' H' => ∀ (oe : Obj) (pn : List (Addr × Obj)), Zc cls d oe → (∃ vs, oe.data = .fields vs) → WSs (X.suite a ((a, oe) :: pn)) (b1 :: s1) D' σ' H'⟩,
      ⟨.ref c2, i, fun a cls d D' σ' H' => ∀ (oe : Obj) (pn : List (Addr × Obj)), Zc cls d oe → (∃ vs, oe.data = .fields vs) → WSs (X.suite a ((a, oe) :: pn)) (b2 :: s2) D' σ' H'⟩])
    (Wout := fun _ _ _ _ => False) hs hf hN takes0 (fun W pn xe tk po => ⟨fun pins s σ H D I h => WSs.pss.run pins s σ H D I (h pn xe tk po)⟩)
    (.cons ⟨hg1, hdb1, .inl hm1⟩ hi hln (fun a oe cls d pn hz hf' => ⟨fun pins s σ H D I h => WSs.pss.run pins s σ H D I (h oe pn hz hf')⟩)
      (.cons ⟨hg2, hdb2, .inl hm2⟩ hi hln (fun a oe cls d pn hz hf' => ⟨fun pins s σ H D I h => WSs.pss.run pins s σ H D I (h oe pn hz hf')⟩) .nil)), ?_⟩
  intro pn xe tk po
  exact h _ pn xe tk po (fun C dd σ' H' te hsu => ⟨true, te, fun _ a ha oe pn hz hf' => hsu a oe pn hz hf' ha, fun z => nomatch z⟩)
    (fun C dd σ' H' te te2 hsu => ⟨false, te, (fun z => nomatch z), fun _ => ⟨true, te2, fun _ a ha oe pn hz hf' => hsu a oe pn hz hf' ha, fun z => nomatch z⟩⟩)
end
/-! ### a op1 b op2 c op3 d -/
section
variable {X : Cx} {a b c d : Expr} {pos : Pos} {r r' r'' : R2}
def tChain3 (r r' r'' : R2) (ta tb tc td : TE) : TE := fun σ H Q => ta σ H fun x H1 => tb σ H1 fun y H2 => r x y H2 fun z H3 => ∃ k, z = .bl k ∧
  (if k = true then tc σ H3 fun x2 H4 => r' y x2 H4 fun z2 H5 => ∃ k2, z2 = .bl k2 ∧ (if k2 = true then td σ H5 fun x3 H6 => r'' x2 x3 H6 Q else Q (.bl false) H5) else Q (.bl false) H3)
theorem pe_chain3 {op op' op'' : CmpOp} {ta tb tc td : TE} (ho : OpR X (compareOp op) r) (ho' : OpR X (compareOp op') r') (ho'' : OpR X (compareOp op'') r'') (ha : PE X a ta) (hb : PE X b tb) (hc : PE X c tc) (hd : PE X d td)
    (hm : lastMarks [op, op', op''] [b, c, d] = false := by with_unfolding_all rfl) : PE X (.Compare a [op, op', op''] [b, c, d] pos) (tChain3 r r' r'' ta tb tc td) := by
  refine ⟨fun pins s σ H Q I h => ?_⟩
  refine Compare_chain (thn (ha.run pins s σ H _ I h) fun v s1 ⟨x, H1, I1, r1, q1⟩ => chain_link (thn (hb.run pins s1 σ H1 _ I1 q1) fun u s2 ⟨y, H2, I2, r2, q2⟩ =>
    thn (ho pins s2 σ H2 x y v u _ I2 r1 r2 q2) fun d s3 ⟨z, H3, I3, r3, k, e, q3⟩ => ?_)) hm
  subst e
  cases r3
  refine wpAny_truthy_bool ?_
  cases k with
  | false => exact ite_ff ⟨.bl false, H3, I3, rfl, q3⟩
  | true =>
    refine ite_tt (chain_link (thn (hc.run pins s3 σ H3 _ I3 q3) fun w s4 ⟨x2, H4, I4, r4, q4⟩ => thn (ho' pins s4 σ H4 y x2 u w _ I4 r2 r4 q4) fun d5 s5 ⟨z2, H5, I5, r5, k2, e2, q5⟩ => ?_))
    subst e2
    cases r5
    refine wpAny_truthy_bool ?_
    cases k2 with
    | false => exact ite_ff ⟨.bl false, H5, I5, rfl, q5⟩
    | true => exact ite_tt (chain_last (thn (hd.run pins s5 σ H5 _ I5 q5) fun w' s6 ⟨x3, H6, I6, r6, q6⟩ => ho'' pins s6 σ H6 x2 x3 w w' Q I6 r4 r6 q6))
theorem e_chain3 {σ : L2.St} {H : Hp} {Q : VK} {op op' op'' : CmpOp} (ho : OpR X (compareOp op) r) (ho' : OpR X (compareOp op') r') (ho'' : OpR X (compareOp op'') r'') (hm : lastMarks [op, op', op''] [b, c, d] = false := by with_unfolding_all rfl)
    (h : tChain3 r r' r'' (WE X a) (WE X b) (WE X c) (WE X d) σ H Q) : WE X (.Compare a [op, op', op''] [b, c, d] pos) σ H Q := ⟨_, pe_chain3 ho ho' ho'' WE.pe WE.pe WE.pe WE.pe hm, h⟩
theorem e_chain {σ : L2.St} {H : Hp} {Q : VK} {op op' : CmpOp} (ho : OpR X (compareOp op) r) (ho' : OpR X (compareOp op') r') (hm : lastMarks [op, op'] [b, c] = false := by with_unfolding_all rfl)
    (h : tChain r r' (WE X a) (WE X b) (WE X c) σ H Q) : WE X (.Compare a [op, op'] [b, c] pos) σ H Q := ⟨_, pe_chain ho ho' WE.pe WE.pe WE.pe hm, h⟩
end
section
variable {X : Cx} {σ : L2.St} {H : Hp} {D : Ends} {e : Expr} {p' pos : Pos}
/-- n //= e, ints -/
theorem s_augFdiv (i : Nat) {n : Str} (hN : X.N.Nodup) (hi : X.N[i]? = some n := by rfl) (hx : Loc X.env.scope n := by first | exact Or.inl rfl | exact Or.inr rfl) (hf : X.fn n = true ∨ X.env.scope.names.lookup n = some .local := by first | exact .inl rfl | exact .inr rfl | assumption)
    (h : ∃ v, σ[i]? = some (some v) ∧ WE X e σ H fun y H1 => ∃ a b, v = .int a ∧ y = .int b ∧ CDivW a b ∧ D.nx (σ.set i (some (.int (a / b)))) H1) : WS X (.AugAssign (.Name n p') .FloorDiv e pos) D σ H := ⟨_, ps_aug hN hi hx WE.pe iop_fdivW hf, h⟩
end
section
variable {X : Cx} {σ : L2.St} {H : Hp} {D : Ends} {a b c : Expr} {pos : Pos}
theorem s_par3 (i j l : Nat) {x y z : Str} {px py pz pt : Pos} {kt k2 pt2} (hN : X.N.Nodup) (hij : i ≠ j := by decide) (hil : i ≠ l := by decide) (hjl : j ≠ l := by decide) (hc : X.calm = true := by rfl) (hi : X.N[i]? = some x := by rfl) (hj : X.N[j]? = some y := by rfl) (hl : X.N[l]? = some z := by rfl)
    (hx : X.env.scope.names.lookup x = some .local := by rfl) (hy : X.env.scope.names.lookup y = some .local := by rfl) (hz : X.env.scope.names.lookup z = some .local := by rfl)
    (hw : swappedStores [.Tuple [.Name x px, .Name y py, .Name z pz] kt pt] (.Tuple [a, b, c] k2 pt2) X.env = pure (some [x, y, z]) := by rfl)
    (hs : swapsWithSole [.Tuple [.Name x px, .Name y py, .Name z pz] kt pt] (.Tuple [a, b, c] k2 pt2) pos.line X.env = pure false := by rfl)
    (h : WA X [a, b, c] σ H fun vs H1 => ∃ u v w, vs = [u, v, w] ∧ D.nx (((σ.set i (some u)).set j (some v)).set l (some w)) H1) : WS X (.Assign [.Tuple [.Name x px, .Name y py, .Name z pz] kt pt] (.Tuple [a, b, c] k2 pt2) pos) D σ H := ⟨_, ps_par3 hc hN hi hj hl hij hil hjl hx hy hz WA.pa hw hs, h⟩
end
/-! ### a def in a local name -/
/-- the def at f, that is called by a name that holds it -/
structure HeldD (P : Program) (w : World) (K : PySem.W.Frag) (mg : Str → Option Value) (base : Heap) (f : Addr) (k : Nat) (ps : List Str) (sp : Sp) : Prop where
  ex : ∃ fd, FnOk P w K mg base CX0 k f fd ps sp ∧ PySem.W.keepIn K (.ref f) = true ∧ Binds K fd ps []
section
variable {X : Cx} {σ : L2.St} {H : Hp} {Q : VK} {e : Expr} {es : List Expr} {pos p2 : Pos} {x : Str} {k : Nat} {ps : List Str} {sp : Sp} {f : Addr}
theorem e_callL (i : Nat) (cl : HeldD X.prog X.w X.K X.mg X.base f k ps sp) (hr : Room k X.A) (hN : X.N[i]? = some x := by rfl) (hv : Vis X.env.scope x := by first | exact Or.inl rfl | exact .inl (.inl rfl) | exact .inl rfl | exact .inr rfl) (hdb : (x == ("__debug__" : Str)) = false := by decide) (hcd : (x == ("__classdict__" : Str)) = false := by decide)
    (he : starEach (e :: es) X.env = (false, eval e X.env) :: starEach es X.env := by rfl) (hpl : (backTo pos (starEach es X.env)).any (·.1) = false := by rfl)
    (h : σ[i]? = some (some (.ref f)) ∧ WA X (e :: es) σ H fun vs H1 => sp vs H1 Q E0) : WE X (.Call (.Name x p2) (e :: es) [] pos) σ H Q := by
  obtain ⟨fd, F, hk, hb⟩ := cl.ex
  refine ⟨_, pe_callL (i := i) F hr hN hv hk hb .nil pass0 WA.pa hdb hcd he hpl, h.1, ?_⟩
  show WA X (e :: es) σ H fun vs H1 => sp (vs ++ []) H1 Q E0
  simp only [List.append_nil]
  exact h.2
end
end Lw
/-! Defs read by what their names hold: data that stay, lists and dicts of one's own; the heap is kept out of sight. -/
namespace Dw
open PySem PySem.Spec L2 Evl Lw

/-! ### slots -/
/-- what is known of a value, for good -/
structure Kn where
  S : V → Hp → Prop
  m : ∀ v B B', Ex B B' → S v B → S v B'
/-- nothing that matters | data that stay | an own list, an own dict of data | an own object of some kind | a value | what slot i holds -/
inductive Sl where
  | no
  | d (x : PyData)
  | ol (xs : List PyData)
  | od (kvs : List (L2.Key × PyData))
  | ob (S : HO → Prop)
  | lo (S : HO → Prop)
  | pl (xs : List PyData)
  | v (w : V)
  | al (i : Nat)
  | kn (F : Kn)
  | nt (xs : List (PyData × Bool))
abbrev Rho := List Sl
def Sl.own : Sl → Bool
  | .ol _ => true
  | .od _ => true
  | .ob _ => true
  | .lo _ => true
  | .pl _ => true
  | _ => false
/-- 1: made here; 2: perhaps handed in -/
def Sl.tag : Sl → Nat
  | .ol _ => 1
  | .od _ => 1
  | .ob _ => 2
  | .lo _ => 1
  | .pl _ => 2
  | _ => 0
theorem own_tag (s : Sl) : s.own = decide (s.tag ≠ 0) := by cases s <;> rfl
inductive KvAll (K : PySem.W.Frag) (B : Hp) : List (L2.Key × V) → List (L2.Key × PyData) → Prop
  | nil : KvAll K B [] []
  | cons {k : L2.Key} {v : V} {d : PyData} {vs ds} : Dp K B v d → KvAll K B vs ds → KvAll K B ((k, v) :: vs) ((k, d) :: ds)
theorem KvAll.mono {K : PySem.W.Frag} {B B' : Hp} (e : Ex B B') : ∀ {vs ds}, KvAll K B vs ds → KvAll K B' vs ds
  | _, _, .nil => .nil
  | _, _, .cons h a => .cons (Dp.mono e h) (KvAll.mono e a)
/-- what an own object is -/
def Sh (K : PySem.W.Frag) (B : Hp) (u : HO) : Sl → Prop
  | .ol xs => ∃ vs, u = .lst vs ∧ DpAll K B vs xs
  | .od kvs => ∃ vs, u = .dK vs ∧ KvAll K B vs kvs
  | .ob S => S u
  | .lo S => S u
  | .pl xs => ∃ vs, u = .lst vs ∧ DpAll K B vs xs
  | _ => False
theorem Sh.mono {K : PySem.W.Frag} {B B' : Hp} {u : HO} (e : Ex B B') : ∀ {s : Sl}, Sh K B u s → Sh K B' u s
  | .no, h => h
  | .d _, h => h
  | .ol _, ⟨vs, e1, h⟩ => ⟨vs, e1, DpAll.mono e h⟩
  | .od _, ⟨vs, e1, h⟩ => ⟨vs, e1, KvAll.mono e h⟩
  | .ob _, h => h
  | .lo _, h => h
  | .pl _, ⟨vs, e1, h⟩ => ⟨vs, e1, DpAll.mono e h⟩
  | .v _, h => h
  | .al _, h => h
  | .kn _, h => h
  | .nt _, h => h
/-- slot's value o -/
def Rs (K : PySem.W.Frag) (B H : Hp) (o : Option V) : Sl → Prop
  | .no => True
  | .d x => ∃ v, o = some v ∧ Dp K B v x
  | .v w => o = some w
  | .al _ => False
  | .kn F => ∃ v, o = some v ∧ F.S v B
  | .nt _ => False
  | s => ∃ p u, o = some (.ref p) ∧ H p = some u ∧ B p = none ∧ Sh K B u s
theorem Rs.get {K : PySem.W.Frag} {B H : Hp} {o : Option V} : ∀ {s : Sl}, s.own = true → Rs K B H o s → ∃ p u, o = some (.ref p) ∧ H p = some u ∧ B p = none ∧ Sh K B u s
  | .ol _, _, h => h
  | .od _, _, h => h
  | .ob _, _, h => h
  | .lo _, _, h => h
  | .pl _, _, h => h
theorem Rs.put {K : PySem.W.Frag} {B H : Hp} {o : Option V} : ∀ {s : Sl}, s.own = true → (∃ p u, o = some (.ref p) ∧ H p = some u ∧ B p = none ∧ Sh K B u s) → Rs K B H o s
  | .ol _, _, h => h
  | .od _, _, h => h
  | .ob _, _, h => h
  | .lo _, _, h => h
  | .pl _, _, h => h
/-- an own object's address -/
def Ow (ρ : Rho) (σ : L2.St) (p : Addr) : Prop := ∃ (i : Nat) (s : Sl), ρ[i]? = some s ∧ s.own = true ∧ σ[i]? = some (some (.ref p))
structure St (K : PySem.W.Frag) (ρ : Rho) (σ : L2.St) (B H : Hp) : Prop where
  k : Ex B H
  l : σ.length = ρ.length
  s : ∀ (i : Nat) (s : Sl), ρ[i]? = some s → ∃ o, σ[i]? = some o ∧ Rs K B H o s
  u : ∀ (i j : Nat) (s t : Sl) (p : Addr), ρ[i]? = some s → ρ[j]? = some t → s.own = true → t.own = true → σ[i]? = some (some (.ref p)) → σ[j]? = some (some (.ref p)) → i = j
section
variable {K : PySem.W.Frag} {ρ ρ1 ρ2 : Rho} {σ : L2.St} {B H B1 H1 B2 H2 : Hp} {p : Addr} {v w : V} {r : Sl}
theorem St.own (st : St K ρ σ B H) (h : Ow ρ σ p) : B p = none ∧ H p ≠ none := by
  obtain ⟨i, s, h1, h2, h3⟩ := h
  obtain ⟨o, e, rs⟩ := st.s i s h1
  rw [h3] at e
  cases e
  obtain ⟨q, u, e1, e2, e3, _⟩ := Rs.get h2 rs
  cases e1
  exact ⟨e3, by rw [e2]; exact fun z => nomatch z⟩
/-- from the start to the end of an expression -/
structure Go (K : PySem.W.Frag) (ρ : Rho) (σ : L2.St) (B H : Hp) (ρ' : Rho) (B' H' : Hp) : Prop where
  g : Gr (Ow ρ σ) B H B' H'
  w : ρ'.map Sl.tag = ρ.map Sl.tag
  st : St K ρ' σ B' H'
  st0 : St K ρ σ B H
theorem tag_of {i : Nat} {s : Sl} (w : ρ1.map Sl.tag = ρ.map Sl.tag) (h : ρ1[i]? = some s) : ∃ t, ρ[i]? = some t ∧ t.tag = s.tag := by
  have e : (ρ1.map Sl.tag)[i]? = some s.tag := by rw [List.getElem?_map, h]; rfl
  rw [w, List.getElem?_map] at e
  cases q : ρ[i]? with
  | none => rw [q] at e; cases e
  | some t =>
    rw [q] at e
    exact ⟨t, rfl, by simpa using e⟩
theorem ow_of (w : ρ1.map Sl.tag = ρ.map Sl.tag) (h : Ow ρ1 σ p) : Ow ρ σ p := by
  obtain ⟨i, s, h1, h2, h3⟩ := h
  obtain ⟨t, e, e2⟩ := tag_of w h1
  exact ⟨i, t, e, by rw [own_tag] at h2 ⊢; rw [e2]; exact h2, h3⟩
theorem Go.refl (st : St K ρ σ B H) : Go K ρ σ B H ρ B H := ⟨Gr.refl st.k, rfl, st, st⟩
theorem Go.trans (a : Go K ρ σ B H ρ1 B1 H1) (b : Go K ρ1 σ B1 H1 ρ2 B2 H2) : Go K ρ σ B H ρ2 B2 H2 :=
  ⟨a.g.trans (b.g.weak fun _ z => ow_of a.w z), b.w.trans a.w, b.st, a.st0⟩
/-- knowing more: something that nobody's slot owns -/
theorem St.learn (st : St K ρ σ B H) {B' H' : Hp} (g : Gr M0 B H B' H') : St K ρ σ B' H' := by
  refine ⟨g.k, st.l, fun i s h => ?_, st.u⟩
  obtain ⟨o, e, rs⟩ := st.s i s h
  refine ⟨o, e, ?_⟩
  by_cases c : s.own = true
  · obtain ⟨p, u, e1, e2, e3, e4⟩ := Rs.get c rs
    exact Rs.put c ⟨p, u, e1, g.h p u (fun z => z) e2, g.f p e3 (by rw [e2]; exact fun z => nomatch z), Sh.mono g.b e4⟩
  · cases s with
    | no => trivial
    | d x => obtain ⟨v, e1, e2⟩ := rs; exact ⟨v, e1, Dp.mono g.b e2⟩
    | v w => exact rs
    | al i => exact rs
    | ol _ => exact absurd rfl c
    | od _ => exact absurd rfl c
    | ob _ => exact absurd rfl c
    | lo _ => exact absurd rfl c
    | pl _ => exact absurd rfl c
    | kn F => obtain ⟨v, e1, e2⟩ := rs; exact ⟨v, e1, F.m _ _ _ g.b e2⟩
    | nt _ => exact rs
theorem Go.of (st : St K ρ σ B H) (g : Gr M0 B H B1 H1) : Go K ρ σ B H ρ B1 H1 := ⟨g.up, rfl, st.learn g, st⟩
/-- a value behind an expression that began with H -/
def Rr (K : PySem.W.Frag) (σ : L2.St) (H B' H' : Hp) (v : V) : Sl → Prop
  | .no => True
  | .d x => Dp K B' v x
  | .v w => v = w
  | .al i => σ[i]? = some (some v)
  | .kn F => F.S v B'
  | .nt xs => Dp K B' v (.tuple (xs.map Prod.fst)) ∧ ∃ T vs, v = .ref T ∧ B' T = some (.tup vs) ∧ ∀ (i : Nat) (x : PyData), xs[i]? = some (x, true) → ∃ p ws, vs[i]? = some (.ref p) ∧ H p = none ∧ B' p = some (.lst ws) ∧ ∃ ys, x = .list ys ∧ ws.length = ys.length
  | s => ∃ p u, v = .ref p ∧ H p = none ∧ H' p = some u ∧ B' p = none ∧ Sh K B' u s
theorem Rr.get {B' H' : Hp} : ∀ {s : Sl}, s.own = true → Rr K σ H B' H' v s → ∃ p u, v = .ref p ∧ H p = none ∧ H' p = some u ∧ B' p = none ∧ Sh K B' u s
  | .ol _, _, h => h
  | .od _, _, h => h
  | .ob _, _, h => h
  | .lo _, _, h => h
  | .pl _, _, h => h
theorem Rr.put {B' H' : Hp} : ∀ {s : Sl}, s.own = true → (∃ p u, v = .ref p ∧ H p = none ∧ H' p = some u ∧ B' p = none ∧ Sh K B' u s) → Rr K σ H B' H' v s
  | .ol _, _, h => h
  | .od _, _, h => h
  | .ob _, _, h => h
  | .lo _, _, h => h
  | .pl _, _, h => h
theorem Rr.later (a : Go K ρ σ B H ρ1 B1 H1) (b : Go K ρ1 σ B1 H1 ρ2 B2 H2) (h : Rr K σ H B1 H1 v r) : Rr K σ H B2 H2 v r := by
  by_cases c : r.own = true
  · obtain ⟨p, u, e1, e2, e3, e4, e5⟩ := Rr.get c h
    refine Rr.put c ⟨p, u, e1, e2, b.g.h p u (fun z => (a.st0.own (ow_of a.w z)).2 e2) e3, b.g.f p e4 (by rw [e3]; exact fun z => nomatch z), Sh.mono b.g.b e5⟩
  · cases r with
    | no => trivial
    | d x => exact Dp.mono b.g.b h
    | v w => exact h
    | al i => exact h
    | ol _ => exact absurd rfl c
    | od _ => exact absurd rfl c
    | ob _ => exact absurd rfl c
    | lo _ => exact absurd rfl c
    | pl _ => exact absurd rfl c
    | kn F => exact F.m _ _ _ b.g.b h
    | nt xs => obtain ⟨h1, T, vs, e1, e2, e3⟩ := h; exact ⟨Dp.mono b.g.b h1, T, vs, e1, b.g.b T _ e2, fun i x hx => by obtain ⟨p, ws, f1, f2, f3⟩ := e3 i x hx; exact ⟨p, ws, f1, f2, b.g.b p _ f3.1, f3.2⟩⟩
/-- of an expression that began later -/
theorem Rr.early (a : Go K ρ σ B H ρ1 B1 H1) (h : Rr K σ H1 B2 H2 v r) : Rr K σ H B2 H2 v r := by
  by_cases c : r.own = true
  · obtain ⟨p, u, e1, e2, e3, e4, e5⟩ := Rr.get c h
    exact Rr.put c ⟨p, u, e1, a.g.free e2, e3, e4, e5⟩
  · cases r with
    | no => trivial
    | d x => exact h
    | v w => exact h
    | al i => exact h
    | ol _ => exact absurd rfl c
    | od _ => exact absurd rfl c
    | ob _ => exact absurd rfl c
    | lo _ => exact absurd rfl c
    | pl _ => exact absurd rfl c
    | kn F => exact h
    | nt xs => obtain ⟨h1, T, vs, e1, e2, e3⟩ := h; exact ⟨h1, T, vs, e1, e2, fun i x hx => by obtain ⟨p, ws, f1, f2, f3⟩ := e3 i x hx; exact ⟨p, ws, f1, a.g.free f2, f3⟩⟩
/-- as data that stay -/
def fz : Sl → Option PyData
  | .d x => some x
  | .ol xs => some (.list xs)
  | .nt xs => some (.tuple (xs.map Prod.fst))
  | _ => none
theorem Rr.fz {x : PyData} (a : Go K ρ σ B H ρ1 B1 H1) (h : Rr K σ H B1 H1 v r) (e : Dw.fz r = some x) : ∃ B2, Go K ρ σ B H ρ1 B2 H1 ∧ Ex B1 B2 ∧ Dp K B2 v x := by
  cases r with
  | d y => cases e; exact ⟨B1, a, Ex.refl B1, h⟩
  | ol xs =>
    cases e
    obtain ⟨p, u, e1, e2, e3, e4, vs, e5, e6⟩ := h
    subst e1 e5
    have nb : ¬ Ow ρ1 σ p := fun z => (a.st0.own (ow_of a.w z)).2 e2
    have g : Gr (Ow ρ σ) B H (upd B1 p (.lst vs)) H1 := a.g.learn e2 e4 e3
    have x1 : Ex B1 (upd B1 p (.lst vs)) := Ex.new e4
    have st : St K ρ1 σ (upd B1 p (.lst vs)) H1 := by
      refine ⟨g.k, a.st.l, fun i s h => ?_, a.st.u⟩
      obtain ⟨o, e, rs⟩ := a.st.s i s h
      refine ⟨o, e, ?_⟩
      by_cases c : s.own = true
      · obtain ⟨q, u, f1, f2, f3, f4⟩ := Rs.get c rs
        refine Rs.put c ⟨q, u, f1, f2, ?_, Sh.mono x1 f4⟩
        rw [upd_ne (fun z => nb ⟨i, s, h, c, by rw [e, f1, z]⟩)]
        exact f3
      · cases s with
        | no => trivial
        | d x => obtain ⟨v, e1, e2⟩ := rs; exact ⟨v, e1, Dp.mono x1 e2⟩
        | v w => exact rs
        | al i => exact rs
        | ol _ => exact absurd rfl c
        | od _ => exact absurd rfl c
        | ob _ => exact absurd rfl c
        | lo _ => exact absurd rfl c
        | pl _ => exact absurd rfl c
        | kn F => obtain ⟨v, e1, e2⟩ := rs; exact ⟨v, e1, F.m _ _ _ x1 e2⟩
        | nt _ => exact rs
    exact ⟨_, ⟨g, a.w, st, a.st0⟩, x1, .lst (SqL.of upd_same) (DpAll.mono x1 e6)⟩
  | no => cases e
  | od _ => cases e
  | ob _ => cases e
  | lo _ => cases e
  | pl _ => cases e
  | v _ => cases e
  | al _ => cases e
  | kn _ => cases e
  | nt xs => cases e; exact ⟨B1, a, Ex.refl B1, h.1⟩
/-- in an argument list: data stay -/
def nf : Sl → Sl
  | .ol xs => .d (.list xs)
  | .nt xs => .d (.tuple (xs.map Prod.fst))
  | r => r
theorem Rr.mono {B' B2 H' : Hp} (b : Ex B' B2) (n : r.own = false) (h : Rr K σ H B' H' v r) : Rr K σ H B2 H' v r := by
  cases r with
  | no => trivial
  | d x => exact Dp.mono b h
  | v w => exact h
  | al i => exact h
  | ol _ => cases n
  | od _ => cases n
  | ob _ => cases n
  | lo _ => cases n
  | pl _ => cases n
  | kn F => exact F.m _ _ _ b h
  | nt xs => obtain ⟨h1, T, vs, e1, e2, e3⟩ := h; exact ⟨Dp.mono b h1, T, vs, e1, b T _ e2, fun i x hx => by obtain ⟨p, ws, f1, f2, f3⟩ := e3 i x hx; exact ⟨p, ws, f1, f2, b p _ f3.1, f3.2⟩⟩
theorem Rr.nf (a : Go K ρ σ B H ρ1 B1 H1) (h : Rr K σ H B1 H1 v r) : ∃ B2, Go K ρ σ B H ρ1 B2 H1 ∧ Rr K σ H B2 H1 v (Dw.nf r) := by
  cases r with
  | ol xs =>
    obtain ⟨B2, g, _, d⟩ := Rr.fz (x := .list xs) a h rfl
    exact ⟨B2, g, d⟩
  | nt xs => exact ⟨B1, a, h.1⟩
  | _ => exact ⟨B1, a, h⟩
inductive RrA (K : PySem.W.Frag) (σ : L2.St) (H B' H' : Hp) : List V → List Sl → Prop
  | nil : RrA K σ H B' H' [] []
  | cons {v r vs rs} : Rr K σ H B' H' v r → RrA K σ H B' H' vs rs → RrA K σ H B' H' (v :: vs) (r :: rs)
/-! ### statements -/
structure Gm where
  B0 : Hp
  H0 : Hp
  M : Addr → Prop
  F : Hp
structure SO (K : PySem.W.Frag) (Γ : Gm) (ρ : Rho) (σ : L2.St) (B H : Hp) : Prop where
  st : St K ρ σ B H
  g : Gr Γ.M Γ.B0 Γ.H0 B H
  f : Ex Γ.F B
  o : ∀ (i : Nat) (s : Sl) (p : Addr), ρ[i]? = some s → s.own = true → σ[i]? = some (some (.ref p)) → (s.tag = 1 ∧ Γ.H0 p = none) ∨ (s.tag = 2 ∧ Γ.M p)
variable {Γ : Gm}
theorem SO.go (so : SO K Γ ρ σ B H) (a : Go K ρ σ B H ρ1 B1 H1) : SO K Γ ρ1 σ B1 H1 := by
  have h : ∀ q, Ow ρ σ q → Γ.M q ∨ Γ.H0 q = none := fun q ⟨i, s, h1, h2, h3⟩ => by
    rcases so.o i s q h1 h2 h3 with z | z
    · exact .inr z.2
    · exact .inl z.2
  refine ⟨a.st, ⟨so.g.b.trans a.g.b, a.g.k, fun q o m e => ?_, fun q e => a.g.n q (so.g.n q e), fun q e1 e2 => a.g.f q (so.g.f q e1 e2) (so.g.n q e2)⟩, so.f.trans a.g.b, fun i s p h1 h2 h3 => ?_⟩
  · refine a.g.h q o (fun z => ?_) (so.g.h q o m e)
    rcases h q z with y | y
    · exact m y
    · rw [y] at e; cases e
  · obtain ⟨t, e, e2⟩ := tag_of a.w h1
    rcases so.o i t p e (by rw [own_tag] at h2 ⊢; rw [e2]; exact h2) h3 with z | z
    · exact .inl ⟨e2 ▸ z.1, z.2⟩
    · exact .inr ⟨e2 ▸ z.1, z.2⟩
structure Out where
  nx : Rho → Prop
  rt : Sl → Rho → Prop
  bk : Rho → Prop := fun _ => False
  ct : Rho → Prop := fun _ => False
structure EO (K : PySem.W.Frag) (Γ : Gm) (O : Out) (D : Ends) : Prop where
  nx : ∀ ρ σ B H, O.nx ρ → SO K Γ ρ σ B H → D.nx σ H
  rt : ∀ r ρ σ v B H, O.rt r ρ → SO K Γ ρ σ B H → Rr K σ Γ.H0 B H v r → D.rt v H
  bk : ∀ ρ σ B H, O.bk ρ → SO K Γ ρ σ B H → D.bk σ H
  ct : ∀ ρ σ B H, O.ct ρ → SO K Γ ρ σ B H → D.ct σ H
/-- what a name may be given -/
def sto : Sl → Bool
  | .al _ => false
  | .ob _ => false
  | .pl _ => false
  | .nt _ => false
  | _ => true
theorem sto_tag (hs : sto r = true) (ho : r.own = true) : r.tag = 1 := by
  cases r with
  | ol _ => rfl
  | od _ => rfl
  | ob _ => cases hs
  | lo _ => rfl
  | pl _ => cases hs
  | _ => cases ho
/-- a name is given a value -/
theorem St.put {i : Nat} (st : St K ρ1 σ B1 H1) (hf : ∀ p, r.own = true → v = .ref p → ¬ Ow ρ1 σ p) (hs : Rs K B1 H1 (some v) r) : St K (ρ1.set i r) (σ.set i (some v)) B1 H1 := by
  have key : ∀ (j : Nat) (s : Sl), (ρ1.set i r)[j]? = some s → (j = i ∧ s = r ∧ i < ρ1.length) ∨ (j ≠ i ∧ ρ1[j]? = some s) := fun j s h => by
    by_cases c : i = j
    · subst c
      by_cases l : i < ρ1.length
      · rw [List.getElem?_set_self l] at h
        exact .inl ⟨rfl, (Option.some.inj h).symm, l⟩
      · rw [List.getElem?_eq_none (by rw [List.length_set]; omega)] at h
        cases h
    · rw [List.getElem?_set_ne c] at h
      exact .inr ⟨fun z => c z.symm, h⟩
  refine ⟨st.k, by rw [List.length_set, List.length_set]; exact st.l, fun j s h => ?_, fun j k s t p h1 h2 o1 o2 e1 e2 => ?_⟩
  · rcases key j s h with ⟨rfl, rfl, l⟩ | ⟨n, h'⟩
    · exact ⟨some v, by rw [List.getElem?_set_self (by rw [st.l]; exact l)], hs⟩
    · obtain ⟨o, e, rs⟩ := st.s j s h'
      exact ⟨o, by rw [List.getElem?_set_ne (fun z => n z.symm)]; exact e, rs⟩
  · rcases key j s h1 with ⟨rfl, rfl, l⟩ | ⟨n, h1'⟩
    · rcases key k t h2 with ⟨rfl, rfl, _⟩ | ⟨n2, h2'⟩
      · rfl
      · exfalso
        rw [List.getElem?_set_self (by rw [st.l]; exact l)] at e1
        rw [List.getElem?_set_ne (fun z => n2 z.symm)] at e2
        cases e1
        exact hf p o1 rfl ⟨k, t, h2', o2, e2⟩
    · rcases key k t h2 with ⟨rfl, rfl, l⟩ | ⟨n2, h2'⟩
      · exfalso
        rw [List.getElem?_set_self (by rw [st.l]; exact l)] at e2
        rw [List.getElem?_set_ne (fun z => n z.symm)] at e1
        cases e2
        exact hf p o2 rfl ⟨j, s, h1', o1, e1⟩
      · rw [List.getElem?_set_ne (fun z => n z.symm)] at e1
        rw [List.getElem?_set_ne (fun z => n2 z.symm)] at e2
        exact st.u j k s t p h1' h2' o1 o2 e1 e2
theorem Rr.rs {B' H' : Hp} (h : Rr K σ H B' H' v r) (hs : sto r = true) : Rs K B' H' (some v) r := by
  by_cases c : r.own = true
  · obtain ⟨p, u, e1, e2, e3, e4, e5⟩ := Rr.get c h
    exact Rs.put c ⟨p, u, by rw [e1], e3, e4, e5⟩
  · cases r with
    | no => trivial
    | d x => exact ⟨v, rfl, h⟩
    | v w => show some v = some w; rw [show v = w from h]
    | al i => cases hs
    | ol _ => exact absurd rfl c
    | od _ => exact absurd rfl c
    | ob _ => exact absurd rfl c
    | lo _ => exact absurd rfl c
    | pl _ => exact absurd rfl c
    | kn F => exact ⟨v, rfl, h⟩
    | nt _ => cases hs
theorem SO.put {i : Nat} (so : SO K Γ ρ σ B H) (a : Go K ρ σ B H ρ1 B1 H1) (h : Rr K σ H B1 H1 v r) (hs : sto r = true) : SO K Γ (ρ1.set i r) (σ.set i (some v)) B1 H1 := by
  have s1 := so.go a
  refine ⟨St.put a.st (fun p o e => ?_) (h.rs hs), s1.g, s1.f, fun j s p h1 h2 h3 => ?_⟩
  · obtain ⟨q, u, e1, e2, _⟩ := Rr.get o h
    rw [e] at e1
    cases e1
    exact fun z => (a.st0.own (ow_of a.w z)).2 e2
  · by_cases c : i = j
    · subst c
      by_cases l : i < ρ1.length
      · rw [List.getElem?_set_self l] at h1
        rw [List.getElem?_set_self (by rw [a.st.l]; exact l)] at h3
        cases h1
        cases h3
        obtain ⟨q, u, e1, e2, _⟩ := Rr.get h2 h
        cases e1
        exact .inl ⟨sto_tag hs h2, so.g.free e2⟩
      · rw [List.getElem?_eq_none (by rw [List.length_set]; omega)] at h1
        cases h1
    · rw [List.getElem?_set_ne c] at h1 h3
      exact s1.o j s p h1 h2 h3
end
end Dw
namespace Dw
open PySem PySem.Spec L2 Evl Lw

/-! ### expressions -/
def DE (X : Cx) (e : Expr) (ρ : Rho) (P : Sl → Rho → Prop) : Prop := ∀ σ B H (Q : VK), St X.K ρ σ B H → (∀ r ρ' v B' H', P r ρ' → Go X.K ρ σ B H ρ' B' H' → Rr X.K σ H B' H' v r → Q v H') → WE X e σ H Q
def DT (X : Cx) (e : Expr) (ρ : Rho) (P : Bool → Rho → Prop) : Prop := ∀ σ B H (Q : Bool → Hp → Prop), St X.K ρ σ B H → (∀ b ρ' B' H', P b ρ' → Go X.K ρ σ B H ρ' B' H' → Q b H') → WT X e σ H Q
def DB (X : Cx) (e : Expr) (ρ : Rho) (P : Bool → Rho → Prop) : Prop := ∀ σ B H (Q : Bool → Hp → Prop), St X.K ρ σ B H → (∀ b ρ' B' H', P b ρ' → Go X.K ρ σ B H ρ' B' H' → Q b H') → WB X e σ H Q
def DTs (X : Cx) (es : List Expr) (ρ : Rho) (P : Bool → Rho → Prop) : Prop := ∀ σ B H (Q : Bool → Hp → Prop), St X.K ρ σ B H → (∀ b ρ' B' H', P b ρ' → Go X.K ρ σ B H ρ' B' H' → Q b H') → WTs X es σ H Q
def DA (X : Cx) (es : List Expr) (ρ : Rho) (P : List Sl → Rho → Prop) : Prop := ∀ σ B H (Q : List V → Hp → Prop), St X.K ρ σ B H → (∀ rs ρ' vs B' H', P rs ρ' → Go X.K ρ σ B H ρ' B' H' → RrA X.K σ H B' H' vs rs → Q vs H') → WA X es σ H Q
def DK (X : Cx) (ks : List Keyword) (ρ : Rho) (P : List Sl → Rho → Prop) : Prop := ∀ σ B H (Q : List V → Hp → Prop), St X.K ρ σ B H → (∀ rs ρ' vs B' H', P rs ρ' → Go X.K ρ σ B H ρ' B' H' → RrA X.K σ H B' H' vs rs → Q vs H') → WK X ks σ H Q
def DO (X : Cx) (e : Option Expr) (ρ : Rho) (P : Option Int → Rho → Prop) : Prop := ∀ σ B H (Q : Option Int → Hp → Prop), St X.K ρ σ B H → (∀ i ρ' B' H', P i ρ' → Go X.K ρ σ B H ρ' B' H' → Q i H') → WO X e σ H Q
section
variable {X : Cx} {a b c e : Expr} {es : List Expr} {ks : List Keyword} {ρ : Rho} {P : Sl → Rho → Prop} {pos p2 p3 : Pos} {x : Str} {PT : Bool → Rho → Prop} {PA : List Sl → Rho → Prop}
theorem d_data {e : Expr} (y : PyData) (h : ∀ σ B H (Q : VK), St X.K ρ σ B H → (∀ v B' H', Go X.K ρ σ B H ρ B' H' → Dp X.K B' v y → Q v H') → WE X e σ H Q) (q : P (.d y) ρ) : DE X e ρ P :=
  fun σ B H Q st k => h σ B H Q st fun v B' H' g d => k _ _ v B' H' q g d
theorem d_name (i : Nat) {s : Sl} (hs : ρ[i]? = some s := by rfl) (hN : X.N[i]? = some x := by rfl) (hv : Vis X.env.scope x := by first | exact Or.inl rfl | exact Or.inr (Or.inl rfl) | exact Or.inr (Or.inr rfl)) (hd : (x == ("__debug__" : Str)) = false := by decide)
    (hcd : (x == ("__classdict__" : Str)) = false := by decide) (q : (∀ y, s = Sl.d y → P (Sl.d y) ρ) ∧ (∀ w, s = Sl.v w → P (Sl.v w) ρ) ∧ (s.own = true → P (Sl.al i) ρ) ∧ s ≠ Sl.no ∧ ∀ F, s = Sl.kn F → P (Sl.kn F) ρ) : DE X (.Name x pos) ρ P := by
  intro σ B H Q st k
  obtain ⟨o, e1, rs⟩ := st.s i s hs
  obtain ⟨q1, q2, q3, q4, q5⟩ := q
  cases s with
  | kn F =>
    obtain ⟨v, rfl, d⟩ := rs
    exact ⟨_, pe_var hN hv hd hcd, v, e1, k _ _ v B H (q5 F rfl) (Go.refl st) d⟩
  | nt _ => exact (show False from rs).elim
  | no => exact absurd rfl q4
  | d y =>
    obtain ⟨v, rfl, d⟩ := rs
    exact ⟨_, pe_var hN hv hd hcd, v, e1, k _ _ v B H (q1 y rfl) (Go.refl st) d⟩
  | v w =>
    cases (show o = some w from rs)
    exact ⟨_, pe_var hN hv hd hcd, w, e1, k _ _ w B H (q2 w rfl) (Go.refl st) rfl⟩
  | al _ => exact (show False from rs).elim
  | ol xs =>
    obtain ⟨p, u, rfl, _⟩ := rs
    exact ⟨_, pe_var hN hv hd hcd, .ref p, e1, k (.al i) _ _ B H (q3 rfl) (Go.refl st) e1⟩
  | od xs =>
    obtain ⟨p, u, rfl, _⟩ := rs
    exact ⟨_, pe_var hN hv hd hcd, .ref p, e1, k (.al i) _ _ B H (q3 rfl) (Go.refl st) e1⟩
  | ob S =>
    obtain ⟨p, u, rfl, _⟩ := rs
    exact ⟨_, pe_var hN hv hd hcd, .ref p, e1, k (.al i) _ _ B H (q3 rfl) (Go.refl st) e1⟩
  | lo S =>
    obtain ⟨p, u, rfl, _⟩ := rs
    exact ⟨_, pe_var hN hv hd hcd, .ref p, e1, k (.al i) _ _ B H (q3 rfl) (Go.refl st) e1⟩
  | pl S =>
    obtain ⟨p, u, rfl, _⟩ := rs
    exact ⟨_, pe_var hN hv hd hcd, .ref p, e1, k (.al i) _ _ B H (q3 rfl) (Go.refl st) e1⟩
/-- a name of data -/
theorem d_nd (i : Nat) {y : PyData} (hs : ρ[i]? = some (.d y) := by rfl) (hN : X.N[i]? = some x := by rfl) (hv : Vis X.env.scope x := by first | exact Or.inl rfl | exact Or.inr (Or.inl rfl) | exact Or.inr (Or.inr rfl)) (hd : (x == ("__debug__" : Str)) = false := by decide)
    (hcd : (x == ("__classdict__" : Str)) = false := by decide) (q : P (.d y) ρ) : DE X (.Name x pos) ρ P :=
  d_name i hs hN hv hd hcd ⟨fun z e => by cases e; exact q, fun w e => (nomatch e), fun o => (nomatch o), fun z => (nomatch z), fun F e => (nomatch e)⟩
/-- a name of an own object -/
theorem d_no (i : Nat) {s : Sl} (hs : ρ[i]? = some s := by rfl) (ho : s.own = true := by rfl) (hN : X.N[i]? = some x := by rfl) (hv : Vis X.env.scope x := by first | exact Or.inl rfl | exact Or.inr (Or.inl rfl) | exact Or.inr (Or.inr rfl)) (hd : (x == ("__debug__" : Str)) = false := by decide)
    (hcd : (x == ("__classdict__" : Str)) = false := by decide) (q : P (.al i) ρ) : DE X (.Name x pos) ρ P :=
  d_name i hs hN hv hd hcd ⟨fun z e => (by subst e; cases ho), fun w e => (by subst e; cases ho), fun _ => q, fun z => (by subst z; cases ho), fun F e => (by subst e; cases ho)⟩
theorem d_nv (i : Nat) {w : V} (hs : ρ[i]? = some (.v w) := by rfl) (hN : X.N[i]? = some x := by rfl) (hv : Vis X.env.scope x := by first | exact Or.inl rfl | exact Or.inr (Or.inl rfl) | exact Or.inr (Or.inr rfl)) (hd : (x == ("__debug__" : Str)) = false := by decide)
    (hcd : (x == ("__classdict__" : Str)) = false := by decide) (q : P (.v w) ρ) : DE X (.Name x pos) ρ P :=
  d_name i hs hN hv hd hcd ⟨fun z e => (nomatch e), fun w' e => by cases e; exact q, fun o => (nomatch o), fun z => (nomatch z), fun F e => (nomatch e)⟩
/-- a name of what is known -/
theorem d_nk (i : Nat) {F : Kn} (hs : ρ[i]? = some (.kn F) := by rfl) (hN : X.N[i]? = some x := by rfl) (hv : Vis X.env.scope x := by first | exact Or.inl rfl | exact Or.inr (Or.inl rfl) | exact Or.inr (Or.inr rfl)) (hd : (x == ("__debug__" : Str)) = false := by decide)
    (hcd : (x == ("__classdict__" : Str)) = false := by decide) (q : P (.kn F) ρ) : DE X (.Name x pos) ρ P :=
  d_name i hs hN hv hd hcd ⟨fun z e => (nomatch e), fun w' e => (nomatch e), fun o => (nomatch o), fun z => (nomatch z), fun G e => by cases e; exact q⟩
theorem d_glob {w : V} {u : Value} (hm : X.mg x = some u) (rv : RelV w u) (hg : Gl X x := by rfl) (hd : (x == ("__debug__" : Str)) = false := by decide) (q : P (.v w) ρ) : DE X (.Name x pos) ρ P :=
  fun σ B H Q st k => e_glob hm rv hg hd (k _ _ w B H q (Go.refl st) rfl)
theorem d_int {i j} (q : P (.d (.int i)) ρ) : DE X (.Constant (.int i) j pos) ρ P := fun σ B H Q st k => e_int (k _ _ _ B H q (Go.refl st) (.int i))
theorem d_bl {i j} (q : P (.d (.bool i)) ρ) : DE X (.Constant (.bool i) j pos) ρ P := fun σ B H Q st k => e_bl (k _ _ _ B H q (Go.refl st) (.bl i))
theorem d_non {j} (q : P (.d .none) ρ) : DE X (.Constant .none j pos) ρ P := fun σ B H Q st k => e_non (k _ _ _ B H q (Go.refl st) .non)
theorem d_str {i j} (q : P (.d (.str i)) ρ) : DE X (.Constant (.str i) j pos) ρ P := fun σ B H Q st k => e_str (k _ _ _ B H q (Go.refl st) (.str i))
/-- two operands, the first one data -/
theorem two {PP : Sl → Sl → Rho → Prop} (h : DE X a ρ fun r ρ1 => DE X b ρ1 fun s ρ2 => PP r s ρ2) {σ : L2.St} {B H : Hp} {Q : V → V → Hp → Prop} (st : St X.K ρ σ B H)
    (k : ∀ r s ρ2 v w B2 H2, PP r s ρ2 → Go X.K ρ σ B H ρ2 B2 H2 → Rr X.K σ H B2 H2 v r → Rr X.K σ H B2 H2 w s → Q v w H2) : WE X a σ H fun v H1 => WE X b σ H1 fun w H2 => Q v w H2 :=
  h σ B H _ st fun r ρ1 v B1 H1 h1 g1 r1 => h1 σ B1 H1 _ g1.st fun s ρ2 w B2 H2 h2 g2 r2 => k r s ρ2 v w B2 H2 h2 (g1.trans g2) (Rr.later g1 g2 r1) (Rr.early g1 r2)
theorem rr_int {K : PySem.W.Frag} {σ : L2.St} {H B' H' : Hp} {v : V} {i : Int} (h : Rr K σ H B' H' v (.d (.int i))) : v = .int i := by cases (show Dp K B' v (.int i) from h); rfl
theorem rr_bool {K : PySem.W.Frag} {σ : L2.St} {H B' H' : Hp} {v : V} {i : Bool} (h : Rr K σ H B' H' v (.d (.bool i))) : v = .bl i := by cases (show Dp K B' v (.bool i) from h); rfl
theorem rr_str {K : PySem.W.Frag} {σ : L2.St} {H B' H' : Hp} {v : V} {i : Str} (h : Rr K σ H B' H' v (.d (.str i))) : v = .str i := by cases (show Dp K B' v (.str i) from h); rfl
theorem rr_list {K : PySem.W.Frag} {σ : L2.St} {H B' H' : Hp} {v : V} {xs : List PyData} (h : Rr K σ H B' H' v (.d (.list xs))) : ∃ p vs, v = .ref p ∧ SqL K B' p vs ∧ DpAll K B' vs xs := by
  cases (show Dp K B' v (.list xs) from h) with
  | lst h1 h2 => exact ⟨_, _, rfl, h1, h2⟩
theorem rr_tup {K : PySem.W.Frag} {σ : L2.St} {H B' H' : Hp} {v : V} {xs : List PyData} (h : Rr K σ H B' H' v (.d (.tuple xs))) : ∃ p vs, v = .ref p ∧ SqT K B' p vs ∧ DpAll K B' vs xs := by
  cases (show Dp K B' v (.tuple xs) from h) with
  | tup h1 h2 => exact ⟨_, _, rfl, h1, h2⟩
/-- two ints -/
theorem d_ii {op : Operator} {C : Int → Int → Prop} {f : Int → Int → V} (ho : OpR X (binaryOp op) (rI C f)) (g : Int → Int → PyData) (fg : ∀ i j B, Dp X.K B (f i j) (g i j)) (h : DE X a ρ fun r ρ1 => DE X b ρ1 fun s ρ2 => ∃ i j, r = .d (.int i) ∧ s = .d (.int j) ∧ C i j ∧ P (.d (g i j)) ρ2) : DE X (.BinOp a op b pos) ρ P :=
  fun σ B H Q st k => e_bin ho (two h st fun r s ρ2 v w B2 H2 ⟨i, j, e1, e2, c, q⟩ go r1 r2 => by
    subst e1 e2
    exact ⟨i, j, rr_int r1, rr_int r2, c, k _ _ _ B2 H2 q go (fg i j B2)⟩)
theorem d_add (h : DE X a ρ fun r ρ1 => DE X b ρ1 fun s ρ2 => ∃ i j, r = .d (.int i) ∧ s = .d (.int j) ∧ P (.d (.int (i + j))) ρ2) : DE X (.BinOp a .Add b pos) ρ P :=
  fun σ B H Q st k => e_add (two h st fun r s ρ2 v w B2 H2 ⟨i, j, e1, e2, q⟩ go r1 r2 => by
    subst e1 e2
    exact ⟨i, j, rr_int r1, rr_int r2, k _ _ _ B2 H2 q go (.int _)⟩)
theorem d_sub (h : DE X a ρ fun r ρ1 => DE X b ρ1 fun s ρ2 => ∃ i j, r = .d (.int i) ∧ s = .d (.int j) ∧ P (.d (.int (i - j))) ρ2) : DE X (.BinOp a .Sub b pos) ρ P :=
  fun σ B H Q st k => e_sub (two h st fun r s ρ2 v w B2 H2 ⟨i, j, e1, e2, q⟩ go r1 r2 => by
    subst e1 e2
    exact ⟨i, j, rr_int r1, rr_int r2, k _ _ _ B2 H2 q go (.int _)⟩)
theorem d_mul (h : DE X a ρ fun r ρ1 => DE X b ρ1 fun s ρ2 => ∃ i j, r = .d (.int i) ∧ s = .d (.int j) ∧ CMulW i j ∧ P (.d (.int (i * j))) ρ2) : DE X (.BinOp a .Mult b pos) ρ P :=
  fun σ B H Q st k => e_mul (two h st fun r s ρ2 v w B2 H2 ⟨i, j, e1, e2, c, q⟩ go r1 r2 => by
    subst e1 e2
    exact ⟨i, j, rr_int r1, rr_int r2, c, k _ _ _ B2 H2 q go (.int _)⟩)
theorem d_mod (h : DE X a ρ fun r ρ1 => DE X b ρ1 fun s ρ2 => ∃ i j, r = .d (.int i) ∧ s = .d (.int j) ∧ 0 < j ∧ P (.d (.int (i % j))) ρ2) : DE X (.BinOp a .Mod b pos) ρ P :=
  fun σ B H Q st k => e_mod (two h st fun r s ρ2 v w B2 H2 ⟨i, j, e1, e2, c, q⟩ go r1 r2 => by
    subst e1 e2
    exact ⟨i, j, rr_int r1, rr_int r2, c, k _ _ _ B2 H2 q go (.int _)⟩)
theorem d_fdiv (h : DE X a ρ fun r ρ1 => DE X b ρ1 fun s ρ2 => ∃ i j, r = .d (.int i) ∧ s = .d (.int j) ∧ CDivW i j ∧ P (.d (.int (i / j))) ρ2) : DE X (.BinOp a .FloorDiv b pos) ρ P :=
  fun σ B H Q st k => e_fdiv (two h st fun r s ρ2 v w B2 H2 ⟨i, j, e1, e2, c, q⟩ go r1 r2 => by
    subst e1 e2
    exact ⟨i, j, rr_int r1, rr_int r2, c, k _ _ _ B2 H2 q go (.int _)⟩)
theorem d_pow (h : DE X a ρ fun r ρ1 => DE X b ρ1 fun s ρ2 => ∃ i j, r = .d (.int i) ∧ s = .d (.int j) ∧ CPowW i j ∧ P (.d (.int (i ^ j.toNat))) ρ2) : DE X (.BinOp a .Pow b pos) ρ P :=
  fun σ B H Q st k => e_powW (two h st fun r s ρ2 v w B2 H2 ⟨i, j, e1, e2, c, q⟩ go r1 r2 => by
    subst e1 e2
    exact ⟨i, j, rr_int r1, rr_int r2, c, k _ _ _ B2 H2 q go (.int _)⟩)
theorem d_neg (h : DE X a ρ fun r ρ1 => ∃ i, r = .d (.int i) ∧ P (.d (.int (-i))) ρ1) : DE X (.UnaryOp .USub a pos) ρ P :=
  fun σ B H Q st k => e_neg (h σ B H _ st fun r ρ1 v B1 H1 ⟨i, e1, q⟩ go r1 => by
    subst e1
    exact ⟨i, rr_int r1, k _ _ _ B1 H1 q go (.int _)⟩)
/-- comparisons of ints -/
theorem d_icmp {op : CmpOp} {f : Int → Int → Bool} (ho : OpR X (compareOp op) fun x y H Q => ∃ i j, x = .int i ∧ y = .int j ∧ Q (.bl (f i j)) H) (hm : behindInMarks op b = false := by first | exact nomark _ | rfl)
    (h : DE X a ρ fun r ρ1 => DE X b ρ1 fun s ρ2 => ∃ i j, r = .d (.int i) ∧ s = .d (.int j) ∧ P (.d (.bool (f i j))) ρ2) : DE X (.Compare a [op] [b] pos) ρ P :=
  fun σ B H Q st k => e_cmp ho hm (two h st fun r s ρ2 v w B2 H2 ⟨i, j, e1, e2, q⟩ go r1 r2 => by
    subst e1 e2
    exact ⟨i, j, rr_int r1, rr_int r2, k _ _ _ B2 H2 q go (.bl _)⟩)
theorem dt_icmp {op : CmpOp} {f : Int → Int → Bool} (ho : OpR X (compareOp op) fun x y H Q => ∃ i j, x = .int i ∧ y = .int j ∧ Q (.bl (f i j)) H) (hm : behindInMarks op b = false := by first | exact nomark _ | rfl)
    (h : DE X a ρ fun r ρ1 => DE X b ρ1 fun s ρ2 => ∃ i j, r = .d (.int i) ∧ s = .d (.int j) ∧ PT (f i j) ρ2) : DT X (.Compare a [op] [b] pos) ρ PT :=
  fun σ B H Q st k => t_cmp ho hm (two h st fun r s ρ2 v w B2 H2 ⟨i, j, e1, e2, q⟩ go r1 r2 => by
    subst e1 e2
    exact ⟨i, j, rr_int r1, rr_int r2, _, rfl, k _ _ B2 H2 q go⟩)
def okD (x : PyData) : Bool := SeqAt.shaped x
/-- two data -/
theorem twoD {PP : PyData → PyData → Rho → Prop} (h : DE X a ρ fun r ρ1 => ∃ x, fz r = some x ∧ DE X b ρ1 fun s ρ2 => ∃ y, fz s = some y ∧ PP x y ρ2) {σ : L2.St} {B H : Hp} {Q : V → V → Hp → Prop} (st : St X.K ρ σ B H)
    (k : ∀ x y ρ2 v w B2 H2, PP x y ρ2 → Go X.K ρ σ B H ρ2 B2 H2 → Dp X.K B2 v x → Dp X.K B2 w y → Q v w H2) : WE X a σ H fun v H1 => WE X b σ H1 fun w H2 => Q v w H2 :=
  h σ B H _ st fun r ρ1 v B1 H1 ⟨x, ex, h1⟩ g1 r1 => by
    obtain ⟨B1', g1', x1, d1⟩ := Rr.fz g1 r1 ex
    refine h1 σ B1' H1 _ g1'.st fun s ρ2 w B2 H2 ⟨y, ey, h2⟩ g2 r2 => ?_
    obtain ⟨B2', g2', x2, d2⟩ := Rr.fz (g1'.trans g2) (Rr.early g1' r2) ey
    exact k x y ρ2 v w B2' H2 h2 g2' (Dp.mono (g2.g.b.trans x2) d1) d2
theorem d_eq (hu : X.A.units + 64 < cLine) (h : DE X a ρ fun r ρ1 => ∃ x, fz r = some x ∧ DE X b ρ1 fun s ρ2 => ∃ y, fz s = some y ∧ okD x = true ∧ okD y = true ∧ P (.d (.bool (PyData.eqv x y))) ρ2) : DE X (.Compare a [.Eq] [b] pos) ρ P :=
  fun σ B H Q st k => e_cmp (op_eqD hu) (h := twoD h st fun x y ρ2 v w B2 H2 ⟨s1, s2, q⟩ go d1 d2 => ⟨x, y, Dp.mono go.st.k d1, Dp.mono go.st.k d2, s1, s2, k _ _ _ B2 H2 q go (.bl _)⟩)
theorem d_ne (hu : X.A.units + 64 < cLine) (h : DE X a ρ fun r ρ1 => ∃ x, fz r = some x ∧ DE X b ρ1 fun s ρ2 => ∃ y, fz s = some y ∧ okD x = true ∧ okD y = true ∧ P (.d (.bool (!PyData.eqv x y))) ρ2) : DE X (.Compare a [.NotEq] [b] pos) ρ P :=
  fun σ B H Q st k => e_cmp (op_neD hu) (h := twoD h st fun x y ρ2 v w B2 H2 ⟨s1, s2, q⟩ go d1 d2 => ⟨x, y, Dp.mono go.st.k d1, Dp.mono go.st.k d2, s1, s2, k _ _ _ B2 H2 q go (.bl _)⟩)
theorem dt_eq (hu : X.A.units + 64 < cLine) (h : DE X a ρ fun r ρ1 => ∃ x, fz r = some x ∧ DE X b ρ1 fun s ρ2 => ∃ y, fz s = some y ∧ okD x = true ∧ okD y = true ∧ PT (PyData.eqv x y) ρ2) : DT X (.Compare a [.Eq] [b] pos) ρ PT :=
  fun σ B H Q st k => t_cmp (op_eqD hu) (h := twoD h st fun x y ρ2 v w B2 H2 ⟨s1, s2, q⟩ go d1 d2 => ⟨x, y, Dp.mono go.st.k d1, Dp.mono go.st.k d2, s1, s2, _, rfl, k _ _ B2 H2 q go⟩)
theorem dt_ne (hu : X.A.units + 64 < cLine) (h : DE X a ρ fun r ρ1 => ∃ x, fz r = some x ∧ DE X b ρ1 fun s ρ2 => ∃ y, fz s = some y ∧ okD x = true ∧ okD y = true ∧ PT (!PyData.eqv x y) ρ2) : DT X (.Compare a [.NotEq] [b] pos) ρ PT :=
  fun σ B H Q st k => t_cmp (op_neD hu) (h := twoD h st fun x y ρ2 v w B2 H2 ⟨s1, s2, q⟩ go d1 d2 => ⟨x, y, Dp.mono go.st.k d1, Dp.mono go.st.k d2, s1, s2, _, rfl, k _ _ B2 H2 q go⟩)
/-- a truth's expression as a test -/
theorem dt_val (h : DE X e ρ fun r ρ1 => ∃ k, r = .d (.bool k) ∧ PT k ρ1) (he : ∀ whole, isTrue e X.env whole = (do let v ← whole; standAt e.pos; holding [v] (truthy v)) := by intro _; rfl) : DT X e ρ PT :=
  fun σ B H Q st k => t_val (h σ B H _ st fun r ρ1 v B1 H1 ⟨b, e1, q⟩ go r1 => by
    subst e1
    exact ⟨b, rr_bool r1, k _ _ B1 H1 q go⟩) he
theorem dt_not (h : DT X a ρ fun k ρ1 => PT (!k) ρ1) : DT X (.UnaryOp .Not a pos) ρ PT := fun σ B H Q st k => t_not (h σ B H _ st fun b ρ1 B1 H1 q go => k _ _ B1 H1 q go)
theorem dt_wb (h : DB X e ρ PT) : DT X e ρ PT := fun σ B H Q st k => t_wb (h σ B H _ st k)
theorem db_and {rest : List Expr} (h : DT X a ρ fun k ρ1 => if k = true then DB X (.BoolOp .And (b :: rest) pos) ρ1 PT else PT false ρ1) : DB X (.BoolOp .And (a :: b :: rest) pos) ρ PT :=
  fun σ B H Q st k => b_and (h σ B H _ st fun c ρ1 B1 H1 q go => by
    cases c with
    | true =>
      rw [if_pos rfl] at q ⊢
      exact q σ B1 H1 _ go.st fun b ρ2 B2 H2 q2 g2 => k _ _ B2 H2 q2 (go.trans g2)
    | false =>
      rw [if_neg (by decide)] at q ⊢
      exact k _ _ B1 H1 q go)
theorem db_or {rest : List Expr} (h : DT X a ρ fun k ρ1 => if k = true then PT true ρ1 else DB X (.BoolOp .Or (b :: rest) pos) ρ1 PT) : DB X (.BoolOp .Or (a :: b :: rest) pos) ρ PT :=
  fun σ B H Q st k => b_or (h σ B H _ st fun c ρ1 B1 H1 q go => by
    cases c with
    | false =>
      rw [if_neg (by decide)] at q ⊢
      exact q σ B1 H1 _ go.st fun b ρ2 B2 H2 q2 g2 => k _ _ B2 H2 q2 (go.trans g2)
    | true =>
      rw [if_pos rfl] at q ⊢
      exact k _ _ B1 H1 q go)
theorem db_and1 (h : DT X a ρ PT) : DB X (.BoolOp .And [a] pos) ρ PT := fun σ B H Q st k => b_and1 (h σ B H _ st k)
theorem db_or1 (h : DT X a ρ PT) : DB X (.BoolOp .Or [a] pos) ρ PT := fun σ B H Q st k => b_or1 (h σ B H _ st k)
theorem d_and {rest : List Expr} (h : DE X a ρ fun r ρ1 => ∃ c, r = .d (.bool c) ∧ if c = true then DE X (.BoolOp .And (b :: rest) pos) ρ1 P else P (.d (.bool false)) ρ1) : DE X (.BoolOp .And (a :: b :: rest) pos) ρ P :=
  fun σ B H Q st k => e_and (h σ B H _ st fun r ρ1 v B1 H1 ⟨c, e1, q⟩ go r1 => by
    subst e1
    refine ⟨c, rr_bool r1, ?_⟩
    cases c with
    | true =>
      rw [if_pos rfl] at q ⊢
      exact q σ B1 H1 _ go.st fun r ρ2 w B2 H2 q2 g2 r2 => k _ _ _ B2 H2 q2 (go.trans g2) (Rr.early go r2)
    | false =>
      rw [if_neg (by decide)] at q ⊢
      exact k _ _ _ B1 H1 q go (.bl _))
theorem d_or {rest : List Expr} (h : DE X a ρ fun r ρ1 => ∃ c, r = .d (.bool c) ∧ if c = true then P (.d (.bool true)) ρ1 else DE X (.BoolOp .Or (b :: rest) pos) ρ1 P) : DE X (.BoolOp .Or (a :: b :: rest) pos) ρ P :=
  fun σ B H Q st k => e_or (h σ B H _ st fun r ρ1 v B1 H1 ⟨c, e1, q⟩ go r1 => by
    subst e1
    refine ⟨c, rr_bool r1, ?_⟩
    cases c with
    | false =>
      rw [if_neg (by decide)] at q ⊢
      exact q σ B1 H1 _ go.st fun r ρ2 w B2 H2 q2 g2 r2 => k _ _ _ B2 H2 q2 (go.trans g2) (Rr.early go r2)
    | true =>
      rw [if_pos rfl] at q ⊢
      exact k _ _ _ B1 H1 q go (.bl _))
theorem d_one {op} (h : DE X a ρ P) : DE X (.BoolOp op [a] pos) ρ P := fun σ B H Q st k => e_one (h σ B H _ st k)
theorem d_not (h : DE X a ρ fun r ρ1 => ∃ c, r = .d (.bool c) ∧ P (.d (.bool (!c))) ρ1) : DE X (.UnaryOp .Not a pos) ρ P :=
  fun σ B H Q st k => e_not (h σ B H _ st fun r ρ1 v B1 H1 ⟨c, e1, q⟩ go r1 => by
    subst e1
    exact ⟨c, rr_bool r1, k _ _ _ B1 H1 q go (.bl _)⟩)
theorem d_if {t : Expr} (h : DT X t ρ fun k ρ1 => if k = true then DE X a ρ1 P else DE X b ρ1 P) : DE X (.IfExp t a b pos) ρ P :=
  fun σ B H Q st k => e_if (h σ B H _ st fun c ρ1 B1 H1 q go => by
    cases c with
    | true =>
      rw [if_pos rfl] at q ⊢
      exact q σ B1 H1 _ go.st fun r ρ2 w B2 H2 q2 g2 r2 => k _ _ _ B2 H2 q2 (go.trans g2) (Rr.early go r2)
    | false =>
      rw [if_neg (by decide)] at q ⊢
      exact q σ B1 H1 _ go.st fun r ρ2 w B2 H2 q2 g2 r2 => k _ _ _ B2 H2 q2 (go.trans g2) (Rr.early go r2))
/-! argument lists: lists that were made stay -/
theorem da_nil (q : PA [] ρ) : DA X [] ρ PA := fun σ B H Q st k => a_nil (k _ _ _ B H q (Go.refl st) .nil)
theorem rrA_later {K : PySem.W.Frag} {ρ ρ1 : Rho} {σ : L2.St} {B H B1 H1 B2 H2 : Hp} (a : Go K ρ σ B H ρ1 B1 H1) : ∀ {vs rs}, RrA K σ H1 B2 H2 vs rs → RrA K σ H B2 H2 vs rs
  | _, _, .nil => .nil
  | _, _, .cons h r => .cons (Rr.early a h) (rrA_later a r)
theorem da_cons (hp : starEach (e :: es) X.env = (false, eval e X.env) :: starEach es X.env := by rfl) (h : DE X e ρ fun r ρ1 => DA X es ρ1 fun rs ρ2 => PA (nf r :: rs) ρ2) : DA X (e :: es) ρ PA :=
  fun σ B H Q st k => a_cons hp (h σ B H _ st fun r ρ1 v B1 H1 q go r1 => by
    obtain ⟨B1', go', r1'⟩ := Rr.nf go r1
    exact q σ B1' H1 _ go'.st fun rs ρ2 ws B2 H2 q2 g2 r2 => k _ _ _ B2 H2 q2 (go'.trans g2) (.cons (Rr.later go' g2 r1') (rrA_later go' r2)))
theorem dk_nil (q : PA [] ρ) : DK X [] ρ PA := fun σ B H Q st k => k_nil (k _ _ _ B H q (Go.refl st) .nil)
theorem dk_cons {nm : Option Str} {kp : Pos} (h : DE X e ρ fun r ρ1 => DK X ks ρ1 fun rs ρ2 => PA (nf r :: rs) ρ2) : DK X (⟨nm, e, kp⟩ :: ks) ρ PA :=
  fun σ B H Q st k => k_cons (h σ B H _ st fun r ρ1 v B1 H1 q go r1 => by
    obtain ⟨B1', go', r1'⟩ := Rr.nf go r1
    exact q σ B1' H1 _ go'.st fun rs ρ2 ws B2 H2 q2 g2 r2 => k _ _ _ B2 H2 q2 (go'.trans g2) (.cons (Rr.later go' g2 r1') (rrA_later go' r2)))
/-- all are data -/
def allD : List Sl → Option (List PyData)
  | [] => some []
  | .d x :: rs => (allD rs).map (x :: ·)
  | _ :: _ => none
theorem rrA_all {K : PySem.W.Frag} {σ : L2.St} {H B' H' : Hp} : ∀ {vs : List V} {rs : List Sl} {xs : List PyData}, RrA K σ H B' H' vs rs → allD rs = some xs → DpAll K B' vs xs
  | _, _, xs, .nil, e => by cases e; exact .nil
  | _, _, xs, .cons (r := .d x) (rs := rs) h t, e => by
    unfold allD at e
    cases q : allD rs with
    | none => rw [q] at e; cases e
    | some ys =>
      rw [q] at e
      cases e
      exact .cons h (rrA_all t q)
  | _, _, _, .cons (r := .no) _ _, e => nomatch e
  | _, _, _, .cons (r := .ol _) _ _, e => nomatch e
  | _, _, _, .cons (r := .od _) _ _, e => nomatch e
  | _, _, _, .cons (r := .ob _) _ _, e => nomatch e
  | _, _, _, .cons (r := .lo _) _ _, e => nomatch e
  | _, _, _, .cons (r := .pl _) _ _, e => nomatch e
  | _, _, _, .cons (r := .v _) _ _, e => nomatch e
  | _, _, _, .cons (r := .al _) _ _, e => nomatch e
  | _, _, _, .cons (r := .kn _) _ _, e => nomatch e
  | _, _, _, .cons (r := .nt _) _ _, e => nomatch e
theorem dpAll_len {K : PySem.W.Frag} {B : Hp} : ∀ {vs : List V} {xs : List PyData}, DpAll K B vs xs → vs.length = xs.length
  | _, _, .nil => rfl
  | _, _, .cons _ t => by rw [List.length_cons, List.length_cons, dpAll_len t]
theorem d_lst (h : DA X es ρ fun rs ρ1 => ∃ xs, allD rs = some xs ∧ xs.length ≤ sizeLine ∧ P (.ol xs) ρ1) : DE X (.List es pos) ρ P :=
  fun σ B H Q st k => e_lst (h σ B H _ st fun rs ρ1 vs B1 H1 ⟨xs, ex, hl, q⟩ go ra => by
    have d := rrA_all ra ex
    refine ⟨by rw [dpAll_len d]; exact hl, fun p hp => ?_⟩
    have g2 := Go.of go.st ((Gr.refl (M := M0) go.st.k).own (o := .lst vs) hp)
    exact k _ _ _ _ _ q (go.trans g2) ⟨p, _, rfl, go.g.free hp, upd_same, none_of_ex go.st.k hp, vs, rfl, d⟩)
theorem d_tup {n : Nat} (h : DA X es ρ fun rs ρ1 => ∃ xs, allD rs = some xs ∧ xs.length ≤ sizeLine ∧ P (.d (.tuple xs)) ρ1) : DE X (.Tuple es n pos) ρ P :=
  fun σ B H Q st k => e_tup (h σ B H _ st fun rs ρ1 vs B1 H1 ⟨xs, ex, hl, q⟩ go ra => by
    have d := rrA_all ra ex
    refine ⟨by rw [dpAll_len d]; exact hl, fun p hp => ?_⟩
    have g2 := Go.of go.st ((Gr.refl (M := M0) go.st.k).new (o := .tup vs) hp)
    exact k _ _ _ _ _ q (go.trans g2) (.tup (SqT.of upd_same) (DpAll.mono g2.g.b d)))
end
end Dw
namespace Dw
open PySem PySem.Spec L2 Evl Lw

/-! ### lists behind results -/
def lsOf (ρ : Rho) : Sl → Option (List PyData)
  | .d (.list xs) => some xs
  | .ol xs => some xs
  | .al i => match ρ[i]? with
    | some (.ol xs) => some xs
    | some (.pl xs) => some xs
    | _ => none
  | _ => none
def tpOf : Sl → Option (List PyData)
  | .d (.tuple xs) => some xs
  | _ => none
section
variable {K : PySem.W.Frag} {ρ ρ1 ρ2 : Rho} {σ : L2.St} {B H B1 H1 B2 H2 : Hp} {p : Addr} {v w : V} {r : Sl} {xs ys : List PyData} {vs : List V}
theorem rr_ls (go : Go K ρ σ B H ρ1 B1 H1) (h : Rr K σ H B1 H1 v r) (e : lsOf ρ1 r = some xs) : ∃ p vs, v = .ref p ∧ SqL K H1 p vs ∧ DpAll K B1 vs xs := by
  cases r with
  | d y =>
    cases y with
    | list zs =>
      cases e
      obtain ⟨p, vs, e1, e2, e3⟩ := rr_list h
      exact ⟨p, vs, e1, ex_l go.st.k e2, e3⟩
    | _ => cases e
  | ol zs =>
    cases e
    obtain ⟨p, u, e1, e2, e3, e4, vs, e5, e6⟩ := h
    subst e5
    exact ⟨p, vs, e1, SqL.of e3, e6⟩
  | al i =>
    unfold lsOf at e
    cases q : ρ1[i]? with
    | none => simp only [q] at e; cases e
    | some s =>
      simp only [q] at e
      cases s with
      | ol zs =>
        cases e
        obtain ⟨o, e1, p, u, e2, e3, e4, vs, e5, e6⟩ := go.st.s i _ q
        subst e5
        have hv : σ[i]? = some (some v) := h
        rw [e2] at e1
        rw [e1] at hv
        cases hv
        exact ⟨p, vs, rfl, SqL.of e3, e6⟩
      | pl zs =>
        cases e
        obtain ⟨o, e1, p, u, e2, e3, e4, vs, e5, e6⟩ := go.st.s i _ q
        subst e5
        have hv : σ[i]? = some (some v) := h
        rw [e2] at e1
        rw [e1] at hv
        cases hv
        exact ⟨p, vs, rfl, SqL.of e3, e6⟩
      | _ => cases e
  | _ => cases e
theorem rr_tp (go : Go K ρ σ B H ρ1 B1 H1) (h : Rr K σ H B1 H1 v r) (e : tpOf r = some xs) : ∃ p vs, v = .ref p ∧ SqT K H1 p vs ∧ DpAll K B1 vs xs := by
  cases r with
  | d y =>
    cases y with
    | tuple zs =>
      cases e
      obtain ⟨p, vs, e1, e2, e3⟩ := rr_tup h
      exact ⟨p, vs, e1, ex_t go.st.k e2, e3⟩
    | _ => cases e
  | _ => cases e
theorem dpA_at : ∀ {vs : List V} {xs : List PyData} {j : Nat} {x : PyData}, DpAll K B vs xs → xs[j]? = some x → ∃ v, vs[j]? = some v ∧ Dp K B v x
  | _, _, _, _, .nil, e => by simp at e
  | _, _, 0, _, .cons h t, e => by
    have e' := Option.some.inj e
    subst e'
    exact ⟨_, rfl, h⟩
  | _, _, j + 1, _, .cons h t, e => dpA_at (j := j) t e
theorem dpA_get : ∀ {vs : List V} {xs : List PyData} {j : Nat} {v : V}, DpAll K B vs xs → vs[j]? = some v → ∃ x, xs[j]? = some x ∧ Dp K B v x
  | _, _, _, _, .nil, e => by simp at e
  | _, _, 0, _, .cons h t, e => by
    have e' := Option.some.inj e
    subst e'
    exact ⟨_, rfl, h⟩
  | _, _, j + 1, _, .cons h t, e => dpA_get (j := j) t e
theorem dpA_atI {j : Int} {x : PyData} (h : DpAll K B vs xs) (e : atI xs j = some x) : ∃ v, atI vs j = some v ∧ Dp K B v x := by
  unfold atI at e ⊢
  rw [dpAll_len h]
  cases q : ixN xs.length j with
  | none => rw [q] at e; cases e
  | some k =>
    rw [q] at e
    exact dpA_at h e
theorem dpA_app : ∀ {vs ws : List V} {xs ys : List PyData}, DpAll K B vs xs → DpAll K B ws ys → DpAll K B (vs ++ ws) (xs ++ ys)
  | _, _, _, _, .nil, k => k
  | _, _, _, _, .cons h t, k => .cons h (dpA_app t k)
theorem dpA_take : ∀ {vs : List V} {xs : List PyData} (n : Nat), DpAll K B vs xs → DpAll K B (vs.take n) (xs.take n)
  | _, _, 0, _ => by rw [List.take_zero, List.take_zero]; exact .nil
  | _, _, _ + 1, .nil => .nil
  | _, _, n + 1, .cons h t => .cons h (dpA_take n t)
theorem dpA_drop : ∀ {vs : List V} {xs : List PyData} (n : Nat), DpAll K B vs xs → DpAll K B (vs.drop n) (xs.drop n)
  | _, _, 0, h => h
  | _, _, _ + 1, .nil => .nil
  | _, _, n + 1, .cons h t => dpA_drop n t
theorem dpA_set : ∀ {vs : List V} {xs : List PyData} (n : Nat) {v : V} {x : PyData}, DpAll K B vs xs → Dp K B v x → DpAll K B (vs.set n v) (xs.set n x)
  | _, _, _, _, _, .nil, _ => .nil
  | _, _, 0, _, _, .cons h t, d => .cons d t
  | _, _, n + 1, _, _, .cons h t, d => .cons h (dpA_set n t d)
theorem dpA_erase : ∀ {vs : List V} {xs : List PyData} (n : Nat), DpAll K B vs xs → DpAll K B (vs.eraseIdx n) (xs.eraseIdx n)
  | _, _, _, .nil => .nil
  | _, _, 0, .cons h t => t
  | _, _, n + 1, .cons h t => .cons h (dpA_erase n t)
theorem dpA_ints : ∀ (ns : List Int), DpAll K B (ns.map V.int) (ns.map PyData.int)
  | [] => .nil
  | n :: ns => .cons (.int n) (dpA_ints ns)
theorem dpA_eqints : ∀ {vs : List V} {ns : List Int}, DpAll K B vs (ns.map PyData.int) → vs = ns.map V.int
  | _, [], .nil => rfl
  | _, n :: ns, .cons h t => by
    cases h
    rw [dpA_eqints t]
    rfl
theorem dpA_eqbools : ∀ {vs : List V} {ns : List Bool}, DpAll K B vs (ns.map PyData.bool) → vs = ns.map V.bl
  | _, [], .nil => rfl
  | _, n :: ns, .cons h t => by
    cases h
    rw [dpA_eqbools t]
    rfl
/-- xs[lo:hi] -/
def cut {α : Type} (xs : List α) (lo hi : Option Int) : List α := (xs.drop (HT.sIx xs.length 0 lo)).take (HT.sIx xs.length xs.length hi - HT.sIx xs.length 0 lo)
theorem dpA_cut {lo hi : Option Int} (h : DpAll K B vs xs) : DpAll K B (cutV vs lo hi) (cut xs lo hi) := by
  unfold cutV cut
  rw [dpAll_len h]
  exact dpA_take _ (dpA_drop _ h)
end
section
variable {X : Cx} {a b c e tg : Expr} {es : List Expr} {ks : List Keyword} {ρ : Rho} {P : Sl → Rho → Prop} {pos p2 p3 : Pos} {x : Str} {PT : Bool → Rho → Prop} {PA : List Sl → Rho → Prop}
theorem d_ix (hs : PlainIx b := by exact fun _ _ => rfl) (h : DE X a ρ fun r ρ1 => DE X b ρ1 fun s ρ2 => ∃ xs j x, (lsOf ρ2 r = some xs ∨ tpOf r = some xs) ∧ s = .d (.int j) ∧ atI xs j = some x ∧ P (.d x) ρ2) : DE X (.Subscript a b pos) ρ P := by
  intro σ B H Q st k
  refine ⟨_, pe_ix (r := fun x y H Q => rIxL X.K x y H Q ∨ rIxT X.K x y H Q) ?_ WE.pe WE.pe hs, two h st fun r s ρ2 v w B2 H2 ⟨xs, j, x, e1, e2, e3, q⟩ go r1 r2 => ?_⟩
  · intro value slice pins s σ H x y v u Q I rx ry h hs
    rcases h with h | h
    · exact ix_list value slice pins s σ H x y v u Q I rx ry h hs
    · exact ix_tup value slice pins s σ H x y v u Q I rx ry h hs
  · subst e2
    rcases e1 with e1 | e1
    · obtain ⟨p, vs, f1, f2, f3⟩ := rr_ls go r1 e1
      obtain ⟨z, g1, g2⟩ := dpA_atI f3 e3
      exact .inl ⟨p, vs, j, z, f1, rr_int r2, f2, g1, k _ _ _ B2 H2 q go g2⟩
    · obtain ⟨p, vs, f1, f2, f3⟩ := rr_tp go r1 e1
      obtain ⟨z, g1, g2⟩ := dpA_atI f3 e3
      exact .inr ⟨p, vs, j, z, f1, rr_int r2, f2, g1, k _ _ _ B2 H2 q go g2⟩
theorem do_none {PO : Option Int → Rho → Prop} (q : PO none ρ) : DO X none ρ PO := fun σ B H Q st k => o_none (k _ _ B H q (Go.refl st))
theorem do_some {PO : Option Int → Rho → Prop} (h : DE X e ρ fun r ρ1 => ∃ i, r = .d (.int i) ∧ PO (some i) ρ1) : DO X (some e) ρ PO :=
  fun σ B H Q st k => o_some (h σ B H _ st fun r ρ1 v B1 H1 ⟨i, e1, q⟩ go r1 => by
    subst e1
    exact ⟨i, rr_int r1, k _ _ B1 H1 q go⟩)
theorem d_slice {lo hi : Option Expr} (h : DE X a ρ fun r ρ1 => DO X lo ρ1 fun i ρ2 => DO X hi ρ2 fun j ρ3 => ∃ xs, lsOf ρ3 r = some xs ∧ P (.ol (cut xs i j)) ρ3) : DE X (.Subscript a (.Slice lo hi none p2) pos) ρ P :=
  fun σ B H Q st k => e_slice (h σ B H _ st fun r ρ1 v B1 H1 q1 g1 r1 => q1 σ B1 H1 _ g1.st fun i ρ2 B2 H2 q2 g2 => q2 σ B2 H2 _ g2.st fun j ρ3 B3 H3 ⟨xs, ex, q⟩ g3 => by
    have go := (g1.trans g2).trans g3
    obtain ⟨p, vs, f1, f2, f3⟩ := rr_ls go (Rr.later (g1.trans g2) g3 (Rr.later g1 g2 r1)) ex
    refine ⟨p, vs, f1, f2, fun l hl => ?_⟩
    exact k _ _ _ _ _ q (go.trans (Go.of go.st ((Gr.refl (M := M0) go.st.k).own hl))) ⟨l, _, rfl, go.g.free hl, upd_same, none_of_ex go.st.k hl, _, rfl, dpA_cut f3⟩)
/-- len of a list or tuple -/
theorem d_len (hm : X.mg "len" = none) (hg : Gl X "len" := by rfl) (he : starEach (a :: []) X.env = (false, eval a X.env) :: starEach [] X.env := by rfl)
    (h : DE X a ρ fun r ρ1 => ∃ xs, (lsOf ρ1 r = some xs ∨ tpOf r = some xs) ∧ P (.d (.int (xs.length : Nat))) ρ1) : DE X (.Call (.Name "len" p2) [a] [] pos) ρ P :=
  fun σ B H Q st k => e_blt call_len_seq hm PySem.boot_len (Lw.a_cons he (h σ B H _ st fun r ρ1 v B1 H1 ⟨xs, ex, q⟩ go r1 => Lw.a_nil (by
    rcases ex with ex | ex
    · obtain ⟨p, vs, f1, f2, f3⟩ := rr_ls go r1 ex
      exact ⟨p, vs, by rw [f1], .inl f2, by rw [dpAll_len f3]; exact k _ _ _ B1 H1 q go (.int _)⟩
    · obtain ⟨p, vs, f1, f2, f3⟩ := rr_tp go r1 ex
      exact ⟨p, vs, by rw [f1], .inr f2, by rw [dpAll_len f3]; exact k _ _ _ B1 H1 q go (.int _)⟩))) hg (by decide) (by decide) he (by rfl)
/-- y in xs, a list -/
theorem d_in (hu : X.A.units + 65 < cLine) (h : DE X a ρ fun r ρ1 => ∃ x, fz r = some x ∧ DE X b ρ1 fun s ρ2 => ∃ y, fz s = some (.list y) ∧ okD x = true ∧ okD (.list y) = true ∧ P (.d (.bool (y.any fun z => PyData.eqv z x))) ρ2) (hm : behindInMarks .In b = false := by first | exact nomark _ | rfl) : DE X (.Compare a [.In] [b] pos) ρ P :=
  fun σ B H Q st k => e_cmp (op_inD hu) hm (twoD (PP := fun x z ρ2 => ∃ y, z = .list y ∧ okD x = true ∧ okD (.list y) = true ∧ P (.d (.bool (y.any fun z => PyData.eqv z x))) ρ2) (fun σ B H Q st k => h σ B H Q st fun r ρ1 v B1 H1 ⟨x, ex, q⟩ go r1 => k r ρ1 v B1 H1 ⟨x, ex, fun σ B H Q st k => q σ B H Q st fun s ρ2 w B2 H2 ⟨y, ey, s1, s2, q2⟩ go2 r2 => k s ρ2 w B2 H2 ⟨_, ey, y, rfl, s1, s2, q2⟩ go2 r2⟩ go r1) st
    fun x z ρ2 v w B2 H2 ⟨y, e1, s1, s2, q⟩ go d1 d2 => by
      subst e1
      exact ⟨x, y, Dp.mono go.st.k d1, Dp.mono go.st.k d2, s1, s2, k _ _ _ B2 H2 q go (.bl _)⟩)
theorem d_notin (hu : X.A.units + 65 < cLine) (h : DE X a ρ fun r ρ1 => ∃ x, fz r = some x ∧ DE X b ρ1 fun s ρ2 => ∃ y, fz s = some (.list y) ∧ okD x = true ∧ okD (.list y) = true ∧ P (.d (.bool (!y.any fun z => PyData.eqv z x))) ρ2) (hm : behindInMarks .NotIn b = false := by first | exact nomark _ | rfl) : DE X (.Compare a [.NotIn] [b] pos) ρ P :=
  fun σ B H Q st k => e_cmp (op_notInD hu) hm (twoD (PP := fun x z ρ2 => ∃ y, z = .list y ∧ okD x = true ∧ okD (.list y) = true ∧ P (.d (.bool (!y.any fun z => PyData.eqv z x))) ρ2) (fun σ B H Q st k => h σ B H Q st fun r ρ1 v B1 H1 ⟨x, ex, q⟩ go r1 => k r ρ1 v B1 H1 ⟨x, ex, fun σ B H Q st k => q σ B H Q st fun s ρ2 w B2 H2 ⟨y, ey, s1, s2, q2⟩ go2 r2 => k s ρ2 w B2 H2 ⟨_, ey, y, rfl, s1, s2, q2⟩ go2 r2⟩ go r1) st
    fun x z ρ2 v w B2 H2 ⟨y, e1, s1, s2, q⟩ go d1 d2 => by
      subst e1
      exact ⟨x, y, Dp.mono go.st.k d1, Dp.mono go.st.k d2, s1, s2, k _ _ _ B2 H2 q go (.bl _)⟩)
/-- a comparison as a test, from its expression -/
theorem dt_cmp {op : CmpOp} (h : DE X (.Compare a [op] [b] pos) ρ fun r ρ1 => ∃ k, r = .d (.bool k) ∧ PT k ρ1) (he : ∀ whole, isTrue (.Compare a [op] [b] pos) X.env whole = (do let v ← whole; standAt pos; holding [v] (truthy v)) := by intro _; rfl) : DT X (.Compare a [op] [b] pos) ρ PT := dt_val h he
/-- two lists, whoever made them -/
def rCatL (K : PySem.W.Frag) : R2 := fun x y H Q => ∃ (a b : Addr) (xs ys : List V), x = .ref a ∧ y = .ref b ∧ SqL K H a xs ∧ SqL K H b ys ∧ xs.length + ys.length ≤ sizeLine ∧ ∀ p, H p = none → Q (.ref p) (upd H p (.lst (xs ++ ys)))
open PyProof.Rows in
theorem op_catL : OpR X (binaryOp .Add) (rCatL X.K) := by
  intro pins s σ H x y v u Q I rx ry h
  obtain ⟨a, b, xs, ys, rfl, rfl, ha, hb, hz, q⟩ := h
  cases rx
  cases ry
  obtain ⟨its, r, pl, _⟩ := I.list ha
  obtain ⟨its2, r2, pl2, _⟩ := I.list hb
  obtain ⟨⟨cls, dd, data, sl⟩, ho, hc, n, hd⟩ := pl.isList
  obtain ⟨⟨cls2, dd2, data2, sl2⟩, ho2, hc2, n2, hd2⟩ := pl2.isList
  simp only at hc hd hc2 hd2
  subst hc hd hc2 hd2
  have e : its.toArray ++ its2.toArray = (its ++ its2).toArray := by simp
  refine concat_meets ⟨_, ho, rfl⟩ ⟨_, ho2, rfl⟩ noFill_list_add seq_list_add PySem.F.slot_list_add PySem.F.entry_list_add (PySem.F.args_list_add_2 _ _) (list_addW a b its.toArray its2.toArray n n2 dd dd2 sl sl2 (by rw [List.size_toArray, List.size_toArray, ← r.length, ← r2.length]; exact hz)) ⟨ho, ho2, ?_⟩
  rw [e]
  exact ⟨.ref _, _, I.lnew (t' := s.toks) (r.append r2) (by rw [List.length_append]; omega), rfl, q _ I.fresh⟩
/-- two lists put together -/
theorem d_cat (h : DE X a ρ fun r ρ1 => DE X b ρ1 fun s ρ2 => ∃ xs ys, lsOf ρ2 r = some xs ∧ lsOf ρ2 s = some ys ∧ xs.length + ys.length ≤ sizeLine ∧ P (.ol (xs ++ ys)) ρ2) : DE X (.BinOp a .Add b pos) ρ P :=
  fun σ B H Q st k => e_bin (r := rCatL X.K) op_catL (two h st fun r s ρ2 v w B2 H2 ⟨xs, ys, e1, e2, hl, q⟩ go r1 r2 => by
    obtain ⟨p, vs, f1, f2, f3⟩ := rr_ls go r1 e1
    obtain ⟨p2, vs2, g1, g2, g3⟩ := rr_ls go r2 e2
    refine ⟨p, p2, vs, vs2, f1, g1, f2, g2, by rw [dpAll_len f3, dpAll_len g3]; exact hl, fun l hl => ?_⟩
    exact k _ _ _ _ _ q (go.trans (Go.of go.st ((Gr.refl (M := M0) go.st.k).own hl))) ⟨l, _, rfl, go.g.free hl, upd_same, none_of_ex go.st.k hl, _, rfl, dpA_app f3 g3⟩)
end
end Dw
namespace Dw
open PySem PySem.Spec L2 Evl Lw

/-! ### targets -/
/-- what is owned behind was owned ahead -/
def Own1 (ρ : Rho) (σ : L2.St) (ρ' : Rho) (σ' : L2.St) : Prop := ∀ (i : Nat) (s : Sl) (p : Addr), ρ'[i]? = some s → s.own = true → σ'[i]? = some (some (.ref p)) → ρ[i]? = some s ∧ σ[i]? = some (some (.ref p))
/-- only the slots in ts are given values -/
structure Gx (ρ : Rho) (σ : L2.St) (ρ' : Rho) (σ' : L2.St) (ts : List Nat) : Prop where
  o : Own1 ρ σ ρ' σ'
  r : ∀ i, i ∉ ts → ρ'[i]? = ρ[i]?
  s : ∀ i, i ∉ ts → σ'[i]? = σ[i]?
  l : ρ'.length = ρ.length
  m : σ'.length = σ.length
theorem Gx.trans {ρ ρ1 ρ2 : Rho} {σ σ1 σ2 : L2.St} {ts us : List Nat} (a : Gx ρ σ ρ1 σ1 ts) (b : Gx ρ1 σ1 ρ2 σ2 us) : Gx ρ σ ρ2 σ2 (ts ++ us) :=
  ⟨fun i s p e1 e2 e3 => a.o i s p (b.o i s p e1 e2 e3).1 e2 (b.o i s p e1 e2 e3).2, fun i h => (b.r i fun z => h (List.mem_append_right _ z)).trans (a.r i fun z => h (List.mem_append_left _ z)), fun i h => (b.s i fun z => h (List.mem_append_right _ z)).trans (a.s i fun z => h (List.mem_append_left _ z)), b.l.trans a.l, b.m.trans a.m⟩
def DG (X : Cx) (tg : Expr) (x : PyData) (ρ : Rho) (P : Rho → List Nat → Prop) : Prop := ∀ σ B H v (Q : L2.St → Hp → Prop), St X.K ρ σ B H → Dp X.K B v x → (∀ ρ' ts σ', P ρ' ts → St X.K ρ' σ' B H → Gx ρ σ ρ' σ' ts → Q σ' H) → WG X tg v σ H Q
def DGs (X : Cx) (tgs : List Expr) (xs : List PyData) (ρ : Rho) (P : Rho → List Nat → Prop) : Prop := ∀ σ B H vs (Q : L2.St → Hp → Prop), St X.K ρ σ B H → DpAll X.K B vs xs → (∀ ρ' ts σ', P ρ' ts → St X.K ρ' σ' B H → Gx ρ σ ρ' σ' ts → Q σ' H) → WGs X tgs vs σ H Q
section
variable {X : Cx} {a b c e tg : Expr} {es : List Expr} {ρ : Rho} {pos p2 p3 : Pos} {x : Str} {PG : Rho → List Nat → Prop} {y : PyData} {ys : List PyData}
theorem own1_set {ρ : Rho} {σ : L2.St} {i : Nat} {v : V} (hl : σ.length = ρ.length) : Own1 ρ σ (ρ.set i (.d y)) (σ.set i (some v)) := by
  intro j s p h1 h2 h3
  by_cases c : i = j
  · subst c
    by_cases l : i < ρ.length
    · rw [List.getElem?_set_self l] at h1
      cases h1
      cases h2
    · rw [List.getElem?_eq_none (by rw [List.length_set]; omega)] at h1
      cases h1
  · rw [List.getElem?_set_ne c] at h1 h3
    exact ⟨h1, h3⟩
theorem dg_name (i : Nat) (hN : X.N.Nodup) (hi : X.N[i]? = some x := by rfl) (hx : Loc X.env.scope x := by first | exact Or.inl rfl | exact Or.inr rfl) (hf : X.fn x = true ∨ X.env.scope.names.lookup x = some .local := by first | exact .inl rfl | exact .inr rfl | assumption) (q : PG (ρ.set i (.d y)) [i]) : DG X (.Name x pos) y ρ PG :=
  fun σ B H v Q st d k => g_name i hN hi hx hf (k _ _ _ q (St.put st (fun p o _ => nomatch o) ⟨v, rfl, d⟩) ⟨own1_set st.l, fun j h => List.getElem?_set_ne (fun z => h (by rw [z]; exact List.mem_singleton_self _)), fun j h => List.getElem?_set_ne (fun z => h (by rw [z]; exact List.mem_singleton_self _)), List.length_set, List.length_set⟩)
theorem dgs_nil (q : PG ρ []) : DGs X [] [] ρ PG := fun σ B H vs Q st d k => by
  cases d
  exact gs_nil (k _ _ _ q st ⟨fun _ _ _ h1 _ h3 => ⟨h1, h3⟩, fun _ _ => rfl, fun _ _ => rfl, rfl, rfl⟩)
theorem dgs_cons (hs : (assignEach (e :: es) X.env).map (·.2) = assign e X.env :: (assignEach es X.env).map (·.2) := by rfl) (h : DG X e y ρ fun ρ1 ts => DGs X es ys ρ1 fun ρ2 us => PG ρ2 (ts ++ us)) : DGs X (e :: es) (y :: ys) ρ PG := fun σ B H vs Q st d k => by
  cases d with
  | cons d1 d2 =>
    exact gs_cons hs (h σ B H _ _ st d1 fun ρ1 ts σ1 h1 st1 o1 => h1 σ1 B H _ _ st1 d2 fun ρ2 us σ2 h2 st2 o2 => k _ _ _ h2 st2 (o1.trans o2))
theorem dg_tup {k n : Nat} (hl : ys.length = n) (hc : X.calm = true := by rfl) (hn : (assignEach es X.env).length = n := by rfl) (hst : (assignEach es X.env).findIdx? (·.1) = none := by rfl) (h : DGs X es ys ρ PG) : DG X (.Tuple es k pos) (.tuple ys) ρ PG := fun σ B H v Q st d kk => by
  cases d with
  | tup h1 h2 => exact g_tup (ex_t st.k h1) (by rw [dpAll_len h2]; exact hl) hc hn hst (h σ B H _ _ st h2 kk)
end

/-! ### what is walked over -/
structure DWk (K : PySem.W.Frag) (B1 H1 : Hp) (J : It) (xs : List PyData) : Prop where
  ex : ∃ G Y, Walk J xs.length G Y ∧ (∀ B' H', Ex B1 B' → Ex B' H' → G H') ∧ ∀ i B' H' v H'', i < xs.length → Ex B1 B' → Ex B' H' → Y i H' v H'' → ∃ x B'', xs[i]? = some x ∧ Gr M0 B' H' B'' H'' ∧ Dp K B'' v x
def DI (X : Cx) (tg it : Expr) (ρ : Rho) (P : List PyData → Rho → Prop) : Prop := ∀ σ B H (R : It → Hp → Prop), St X.K ρ σ B H → (∀ xs ρ' J B1 H1, P xs ρ' → Go X.K ρ σ B H ρ' B1 H1 → DWk X.K B1 H1 J xs → R J H1) → WI X tg it σ H R
def enumD (xs : List PyData) : List PyData := xs.zipIdx.map fun p => .tuple [.int (p.2 : Nat), p.1]
def zipD (xs ys : List PyData) : List PyData := xs.zipWith (fun x y => .tuple [x, y]) ys
def rngD (a : Int) (n : Nat) : List PyData := (List.range n).map fun i => .int (a + (i : Nat))
section
variable {K : PySem.W.Frag} {B1 H1 : Hp} {p p2 : Addr} {vs ws : List V} {xs ys : List PyData}
theorem wk_list (h : SqL K B1 p vs) (d : DpAll K B1 vs xs) : DWk K B1 H1 (Itl K p) xs := by
  refine ⟨_, _, (by rw [← dpAll_len d]; exact walk_list (xs := vs)), fun B' H' x y => ex_l (x.trans y) h, ?_⟩
  rintro i B' H' v H'' hi x y ⟨rfl, hv⟩
  obtain ⟨z, e1, e2⟩ := dpA_get d hv
  exact ⟨z, B', e1, Gr.refl y, Dp.mono x e2⟩
theorem wk_tup (h : SqT K B1 p vs) (d : DpAll K B1 vs xs) : DWk K B1 H1 (Itt K p) xs := by
  refine ⟨_, _, (by rw [← dpAll_len d]; exact walk_tup (xs := vs)), fun B' H' x y => ex_t (x.trans y) h, ?_⟩
  rintro i B' H' v H'' hi x y ⟨rfl, hv⟩
  obtain ⟨z, e1, e2⟩ := dpA_get d hv
  exact ⟨z, B', e1, Gr.refl y, Dp.mono x e2⟩
theorem wk_rng (a : Int) (n : Nat) : DWk K B1 H1 (Itr a n) (rngD a n) := by
  have hl : (rngD a n).length = n := by unfold rngD; rw [List.length_map, List.length_range]
  refine ⟨_, _, (by rw [hl]; exact walk_range), fun _ _ _ _ => trivial, ?_⟩
  rintro i B' H' v H'' hi x y ⟨rfl, rfl⟩
  rw [hl] at hi
  exact ⟨_, B', by unfold rngD; rw [List.getElem?_map, List.getElem?_range hi]; rfl, Gr.refl y, .int _⟩
theorem yp {i : Nat} {f g : Nat → Option V} {B' H' H'' : Hp} {v : V} (y : Ex B' H') (h : YPair f g i H' v H'') : ∃ (T : Addr) (a b : V), v = .ref T ∧ f i = some a ∧ g i = some b ∧ Gr M0 B' H' (upd B' T (.tup [a, b])) H'' ∧ SqT K (upd B' T (.tup [a, b])) T [a, b] := by
  obtain ⟨T, a, b, e1, e2, e3, e4, e5⟩ := h
  subst e3
  exact ⟨T, a, b, e1, e4, e5, (Gr.refl y).new e2, SqT.of upd_same⟩
theorem wk_enum (h : SqL K B1 p vs) (d : DpAll K B1 vs xs) : DWk K B1 H1 (Ite K p) (enumD xs) := by
  have hl : (enumD xs).length = vs.length := by unfold enumD; rw [List.length_map, List.length_zipIdx, dpAll_len d]
  refine ⟨_, _, (by rw [hl]; exact walk_enum (xs := vs)), fun B' H' x y => ex_l (x.trans y) h, ?_⟩
  intro i B' H' v H'' hi x y hy
  obtain ⟨T, a, b, rfl, e1, e2, g, t⟩ := yp (K := K) y hy
  cases e1
  obtain ⟨z, f1, f2⟩ := dpA_get d e2
  refine ⟨.tuple [.int (i : Nat), z], _, ?_, g, .tup t (.cons (.int _) (.cons (Dp.mono (x.trans g.b) f2) .nil))⟩
  unfold enumD
  rw [List.getElem?_map, List.getElem?_zipIdx, f1]
  simp
theorem wk_zip (h : SqL K B1 p vs) (d : DpAll K B1 vs xs) (h2 : SqL K B1 p2 ws) (d2 : DpAll K B1 ws ys) : DWk K B1 H1 (Itz K p p2) (zipD xs ys) := by
  have hl : (zipD xs ys).length = min vs.length ws.length := by unfold zipD; rw [List.length_zipWith, dpAll_len d, dpAll_len d2]
  refine ⟨_, _, (by rw [hl]; exact walk_zip (xs := vs) (ys := ws) rfl), fun B' H' x y => And.intro (ex_l (x.trans y) h) (ex_l (x.trans y) h2), ?_⟩
  intro i B' H' v H'' hi x y hy
  obtain ⟨T, a, b, rfl, e1, e2, g, t⟩ := yp (K := K) y hy
  obtain ⟨z, f1, f2⟩ := dpA_get d e1
  obtain ⟨z2, f3, f4⟩ := dpA_get d2 e2
  refine ⟨.tuple [z, z2], _, ?_, g, .tup t (.cons (Dp.mono (x.trans g.b) f2) (.cons (Dp.mono (x.trans g.b) f4) .nil))⟩
  unfold zipD
  rw [List.getElem?_zipWith, f1, f3]
theorem wk_zipT (h : SqT K B1 p vs) (d : DpAll K B1 vs xs) (h2 : SqT K B1 p2 ws) (d2 : DpAll K B1 ws ys) : DWk K B1 H1 (RZ.ItzT K p p2) (zipD xs ys) := by
  have hl : (zipD xs ys).length = min vs.length ws.length := by unfold zipD; rw [List.length_zipWith, dpAll_len d, dpAll_len d2]
  refine ⟨_, _, (by rw [hl]; exact walk_zipT (xs := vs) (ys := ws) rfl), fun B' H' x y => And.intro (ex_t (x.trans y) h) (ex_t (x.trans y) h2), ?_⟩
  intro i B' H' v H'' hi x y hy
  obtain ⟨T, a, b, rfl, e1, e2, g, t⟩ := yp (K := K) y hy
  obtain ⟨z, f1, f2⟩ := dpA_get d e1
  obtain ⟨z2, f3, f4⟩ := dpA_get d2 e2
  refine ⟨.tuple [z, z2], _, ?_, g, .tup t (.cons (Dp.mono (x.trans g.b) f2) (.cons (Dp.mono (x.trans g.b) f4) .nil))⟩
  unfold zipD
  rw [List.getElem?_zipWith, f1, f3]
end
section
variable {X : Cx} {a b c e tg it : Expr} {es elts : List Expr} {ρ : Rho} {pos p2 p3 tpos : Pos} {x : Str} {PI : List PyData → Rho → Prop} {kk : Nat}
theorem di_list (h : DE X e ρ fun r ρ1 => ∃ xs, fz r = some (.list xs) ∧ PI xs ρ1) : DI X tg e ρ PI := fun σ B H R st k => i_list (h σ B H _ st fun r ρ1 v B1 H1 ⟨xs, ex, q⟩ go r1 => by
  obtain ⟨B2, go2, _, d⟩ := Rr.fz go r1 ex
  cases d with
  | lst h1 h2 => exact ⟨_, rfl, ⟨_, ex_l go2.st.k h1⟩, k _ _ _ B2 H1 q go2 (wk_list h1 h2)⟩)
theorem di_tup (h : DE X e ρ fun r ρ1 => ∃ xs, r = .d (.tuple xs) ∧ PI xs ρ1) : DI X tg e ρ PI := fun σ B H R st k => i_tup (h σ B H _ st fun r ρ1 v B1 H1 ⟨xs, ex, q⟩ go r1 => by
  subst ex
  obtain ⟨p, vs, e1, e2, e3⟩ := rr_tup r1
  exact ⟨p, e1, ⟨_, ex_t go.st.k e2⟩, k _ _ _ B1 H1 q go (wk_tup e2 e3)⟩)
theorem di_rng1 (hm : X.mg "range" = none) (hg : Gl X "range" := by rfl) (hs : starEach [a] X.env = [(false, eval a X.env)] := by rfl) (h : DE X a ρ fun r ρ1 => ∃ j : Int, r = .d (.int j) ∧ -(2 ^ 62) ≤ j ∧ j < 2 ^ 62 ∧ PI (rngD 0 j.toNat) ρ1) : DI X tg (.Call (.Name "range" p2) [a] [] pos) ρ PI :=
  fun σ B H R st k => i_rng1 hm hg hs (h σ B H _ st fun r ρ1 v B1 H1 ⟨j, ej, h1, h2, q⟩ go r1 => by
    subst ej
    exact ⟨j, rr_int r1, h1, h2, k _ _ _ B1 H1 q go (wk_rng 0 _)⟩)
theorem di_rng2 (hm : X.mg "range" = none) (hg : Gl X "range" := by rfl) (hs : starEach [a, b] X.env = [(false, eval a X.env), (false, eval b X.env)] := by rfl) (hs2 : starEach [b] X.env = [(false, eval b X.env)] := by rfl)
    (h : DA X [a, b] ρ fun rs ρ1 => ∃ i j : Int, rs = [.d (.int i), .d (.int j)] ∧ (-(2 ^ 62) ≤ i ∧ i < 2 ^ 62 ∧ -(2 ^ 62) ≤ j ∧ j < 2 ^ 62) ∧ PI (rngD i (j - i).toNat) ρ1) : DI X tg (.Call (.Name "range" p2) [a, b] [] pos) ρ PI :=
  fun σ B H R st k => i_rng2 hm hg hs hs2 (h σ B H _ st fun rs ρ1 vs B1 H1 ⟨i, j, e, hb, q⟩ go ra => by
    subst e
    cases ra with
    | cons r1 t =>
      cases t with
      | cons r2 t =>
        cases t
        exact ⟨i, j, by rw [rr_int r1, rr_int r2], hb, k _ _ _ B1 H1 q go (wk_rng i _)⟩)
theorem di_enum (hm : X.mg "enumerate" = none) (hg : Gl X "enumerate" := by rfl) (hs : starEach [a] X.env = [(false, eval a X.env)] := by rfl)
    (h : DA X [a] ρ fun rs ρ1 => ∃ xs, rs = [.d (.list xs)] ∧ PI (enumD xs) ρ1) : DI X (.Tuple elts kk tpos) (.Call (.Name "enumerate" p2) [a] [] pos) ρ PI :=
  fun σ B H R st k => i_enum hm hg hs (h σ B H _ st fun rs ρ1 vs B1 H1 ⟨xs, e, q⟩ go ra => by
    subst e
    cases ra with
    | cons r1 t =>
      cases t
      obtain ⟨p, ws, e1, e2, e3⟩ := rr_list r1
      exact ⟨p, ws, by rw [e1], ex_l go.st.k e2, k _ _ _ B1 H1 q go (wk_enum e2 e3)⟩)
theorem di_zip (hm : X.mg "zip" = none) (hg : Gl X "zip" := by rfl) (hs : starEach [a, b] X.env = (false, eval a X.env) :: starEach [b] X.env := by rfl) (hpl : (backTo pos (starEach [b] X.env)).any (·.1) = false := by rfl)
    (h : DA X [a, b] ρ fun rs ρ1 => ∃ xs ys, rs = [.d (.list xs), .d (.list ys)] ∧ PI (zipD xs ys) ρ1) : DI X (.Tuple elts kk tpos) (.Call (.Name "zip" p2) [a, b] [] pos) ρ PI :=
  fun σ B H R st k => i_zip hm hg hs hpl (h σ B H _ st fun rs ρ1 vs B1 H1 ⟨xs, ys, e, q⟩ go ra => by
    subst e
    cases ra with
    | cons r1 t =>
      cases t with
      | cons r2 t =>
        cases t
        obtain ⟨p, ws, e1, e2, e3⟩ := rr_list r1
        obtain ⟨p', ws', f1, f2, f3⟩ := rr_list r2
        exact ⟨p, p', ws, ws', by rw [e1, f1], ex_l go.st.k e2, ex_l go.st.k f2, k _ _ _ B1 H1 q go (wk_zip e2 e3 f2 f3)⟩)
theorem di_zipT (hm : X.mg "zip" = none) (hg : Gl X "zip" := by rfl) (hs : starEach [a, b] X.env = (false, eval a X.env) :: starEach [b] X.env := by rfl) (hpl : (backTo pos (starEach [b] X.env)).any (·.1) = false := by rfl)
    (h : DA X [a, b] ρ fun rs ρ1 => ∃ xs ys, rs = [.d (.tuple xs), .d (.tuple ys)] ∧ PI (zipD xs ys) ρ1) : DI X (.Tuple elts kk tpos) (.Call (.Name "zip" p2) [a, b] [] pos) ρ PI :=
  fun σ B H R st k => i_zipT hm hg hs hpl (h σ B H _ st fun rs ρ1 vs B1 H1 ⟨xs, ys, e, q⟩ go ra => by
    subst e
    cases ra with
    | cons r1 t =>
      cases t with
      | cons r2 t =>
        cases t
        obtain ⟨p, ws, e1, e2, e3⟩ := rr_tup r1
        obtain ⟨p', ws', f1, f2, f3⟩ := rr_tup r2
        exact ⟨p, p', ws, ws', by rw [e1, f1], ex_t go.st.k e2, ex_t go.st.k f2, k _ _ _ B1 H1 q go (wk_zipT e2 e3 f2 f3)⟩)
end

/-! ### comprehensions -/
def wipeR (ρ : Rho) : List Nat → Rho
  | [] => ρ
  | v :: vs => (wipeR ρ vs).set v .no
section
variable {K : PySem.W.Frag} {ρ ρ' : Rho} {σ : L2.St} {B H : Hp}
theorem wipeR_len (ρ : Rho) : ∀ vs : List Nat, (wipeR ρ vs).length = ρ.length
  | [] => rfl
  | v :: vs => by unfold wipeR; rw [List.length_set, wipeR_len ρ vs]
theorem wipeR_in {ρ : Rho} {i : Nat} {s : Sl} : ∀ {vs : List Nat}, (wipeR ρ vs)[i]? = some s → (i ∈ vs ∧ s = .no) ∨ (i ∉ vs ∧ ρ[i]? = some s)
  | [], h => .inr ⟨fun z => (nomatch z), h⟩
  | v :: vs, h => by
    unfold wipeR at h
    by_cases c : v = i
    · subst c
      by_cases l : v < (wipeR ρ vs).length
      · rw [List.getElem?_set_self l] at h
        cases h
        exact .inl ⟨List.mem_cons_self, rfl⟩
      · rw [List.getElem?_eq_none (by rw [List.length_set]; omega)] at h
        cases h
    · rw [List.getElem?_set_ne c] at h
      rcases wipeR_in h with ⟨m, e⟩ | ⟨m, e⟩
      · exact .inl ⟨List.mem_cons_of_mem _ m, e⟩
      · exact .inr ⟨fun z => (List.mem_cons.mp z).elim (fun y => c y.symm) m, e⟩
theorem wipe_out {σ : L2.St} {i : Nat} : ∀ {vs : List Nat}, i ∉ vs → (wipe σ vs)[i]? = σ[i]?
  | [], _ => rfl
  | v :: vs, h => by
    show ((wipe σ vs).set v none)[i]? = _
    rw [List.getElem?_set_ne (fun z => h (by rw [z]; exact List.mem_cons_self))]
    exact wipe_out fun z => h (List.mem_cons_of_mem _ z)
theorem wipeR_no {ρ : Rho} {i : Nat} : ∀ {vs : List Nat}, i ∈ vs → i < ρ.length → (wipeR ρ vs)[i]? = some .no
  | [], h, _ => nomatch h
  | v :: vs, h, l => by
    unfold wipeR
    by_cases c : v = i
    · subst c
      rw [List.getElem?_set_self (by rw [wipeR_len]; exact l)]
    · rw [List.getElem?_set_ne c]
      exact wipeR_no ((List.mem_cons.mp h).resolve_left fun y => c y.symm) l
/-- forgetting -/
theorem St.wipe (st : St K ρ σ B H) (vs : List Nat) {σ' : L2.St} (e : L2.wipe σ' vs = L2.wipe σ vs) : St K (wipeR ρ vs) σ' B H := by
  have hl : σ'.length = σ.length := by rw [← wipe_length σ' vs, e, wipe_length]
  have at_ : ∀ i, i ∉ vs → σ'[i]? = σ[i]? := fun i h => by rw [← wipe_out h, e, wipe_out h]
  refine ⟨st.k, by rw [wipeR_len, hl]; exact st.l, fun i s h => ?_, fun i j s t p h1 h2 o1 o2 e1 e2 => ?_⟩
  · rcases wipeR_in h with ⟨m, rfl⟩ | ⟨m, h'⟩
    · have li : i < σ'.length := by
        have := (List.getElem?_eq_some_iff.mp h).1
        rw [wipeR_len] at this
        rw [hl, st.l]
        exact this
      exact ⟨σ'[i], List.getElem?_eq_getElem li, trivial⟩
    · obtain ⟨o, f1, f2⟩ := st.s i s h'
      exact ⟨o, by rw [at_ i m]; exact f1, f2⟩
  · rcases wipeR_in h1 with ⟨_, rfl⟩ | ⟨m1, h1'⟩
    · cases o1
    · rcases wipeR_in h2 with ⟨_, rfl⟩ | ⟨m2, h2'⟩
      · cases o2
      · rw [at_ i m1] at e1
        rw [at_ j m2] at e2
        exact st.u i j s t p h1' h2' o1 o2 e1 e2
theorem ow_wipe {vs : List Nat} {σ' : L2.St} {p : Addr} (e : L2.wipe σ' vs = L2.wipe σ vs) (h : Ow (wipeR ρ vs) σ' p) : Ow (wipeR ρ vs) σ p := by
  obtain ⟨i, s, h1, h2, h3⟩ := h
  rcases wipeR_in h1 with ⟨_, rfl⟩ | ⟨m, h'⟩
  · cases h2
  · exact ⟨i, s, h1, h2, by rw [← wipe_out m, ← e, wipe_out m]; exact h3⟩
theorem ow_wipe0 {vs : List Nat} {p : Addr} (h : Ow (wipeR ρ vs) σ p) : Ow ρ σ p := by
  obtain ⟨i, s, h1, h2, h3⟩ := h
  rcases wipeR_in h1 with ⟨_, rfl⟩ | ⟨m, h'⟩
  · cases h2
  · exact ⟨i, s, h', h2, h3⟩
theorem wipeR_idem (ρ : Rho) (vs : List Nat) : wipeR (wipeR ρ vs) vs = wipeR ρ vs := by
  apply List.ext_getElem?
  intro i
  by_cases l : i < ρ.length
  · by_cases m : i ∈ vs
    · rw [wipeR_no m (by rw [wipeR_len]; exact l), wipeR_no m l]
    · have key : ∀ ρ : Rho, (wipeR ρ vs)[i]? = ρ[i]? := fun ρ => by
        by_cases l : i < ρ.length
        · have e : (wipeR ρ vs)[i]? = some ((wipeR ρ vs)[i]'(by rw [wipeR_len]; exact l)) := List.getElem?_eq_getElem _
          rcases wipeR_in e with ⟨m', _⟩ | ⟨_, e'⟩
          · exact absurd m' m
          · rw [e, e']
        · rw [List.getElem?_eq_none (by rw [wipeR_len]; omega), List.getElem?_eq_none (by omega)]
      rw [key]
  · rw [List.getElem?_eq_none (by rw [wipeR_len, wipeR_len]; omega), List.getElem?_eq_none (by rw [wipeR_len]; omega)]
theorem wipeR_tag {vs : List Nat} (w : ρ'.map Sl.tag = ρ.map Sl.tag) : (wipeR ρ' vs).map Sl.tag = (wipeR ρ vs).map Sl.tag := by
  have hl : ρ'.length = ρ.length := by have := congrArg List.length w; simpa using this
  induction vs with
  | nil => exact w
  | cons v vs ih => unfold wipeR; rw [List.map_set, List.map_set, ih]
theorem wipe_eq {σ2 σ : L2.St} {vs : List Nat} (l : σ2.length = σ.length) (h : ∀ i, i ∉ vs → σ2[i]? = σ[i]?) : L2.wipe σ2 vs = L2.wipe σ vs := by
  have key : ∀ (σ : L2.St) (vs : List Nat) (i : Nat), i ∈ vs → i < σ.length → (L2.wipe σ vs)[i]? = some none := by
    intro σ vs
    induction vs with
    | nil => intro i h; cases h
    | cons v vs ih =>
      intro i m l
      show ((L2.wipe σ vs).set v none)[i]? = _
      by_cases c : v = i
      · subst c
        rw [List.getElem?_set_self (by rw [wipe_length]; exact l)]
      · rw [List.getElem?_set_ne c]
        exact ih i ((List.mem_cons.mp m).resolve_left fun y => c y.symm) l
  apply List.ext_getElem?
  intro i
  by_cases m : i ∈ vs
  · by_cases b : i < σ.length
    · rw [key σ2 vs i m (by omega), key σ vs i m b]
    · rw [List.getElem?_eq_none (by rw [wipe_length]; omega), List.getElem?_eq_none (by rw [wipe_length]; omega)]
  · rw [wipe_out m, wipe_out m, h i m]
theorem wipeR_eq {ρ2 ρ : Rho} {vs : List Nat} (l : ρ2.length = ρ.length) (h : ∀ i, i ∉ vs → ρ2[i]? = ρ[i]?) : wipeR ρ2 vs = wipeR ρ vs := by
  apply List.ext_getElem?
  intro i
  by_cases b : i < ρ.length
  · by_cases m : i ∈ vs
    · rw [wipeR_no m (by omega), wipeR_no m b]
    · have key : ∀ ρ : Rho, i < ρ.length → (wipeR ρ vs)[i]? = ρ[i]? := fun ρ l => by
        have e : (wipeR ρ vs)[i]? = some ((wipeR ρ vs)[i]'(by rw [wipeR_len]; exact l)) := List.getElem?_eq_getElem _
        rcases wipeR_in e with ⟨m', _⟩ | ⟨_, e'⟩
        · exact absurd m' m
        · rw [e, e']
      rw [key _ (by omega), key _ b, h i m]
  · rw [List.getElem?_eq_none (by rw [wipeR_len]; omega), List.getElem?_eq_none (by rw [wipeR_len]; omega)]
/-- an object that no slot owns is changed -/
theorem St.upd (st : St K ρ σ B H) {D : Addr} {o : HO} (hb : B D = none) (hn : ¬ Ow ρ σ D) : St K ρ σ B (L2.upd H D o) := by
  refine ⟨fun a u h => ?_, st.l, fun i s h => ?_, st.u⟩
  · rw [upd_ne (fun z => by rw [z, hb] at h; cases h)]
    exact st.k a u h
  · obtain ⟨v, e, rs⟩ := st.s i s h
    refine ⟨v, e, ?_⟩
    by_cases c : s.own = true
    · obtain ⟨p, u, e1, e2, e3, e4⟩ := Rs.get c rs
      exact Rs.put c ⟨p, u, e1, by rw [upd_ne (fun z => hn ⟨i, s, h, c, by rw [e, e1, z]⟩)]; exact e2, e3, e4⟩
    · cases s with
      | no => trivial
      | d x => exact rs
      | v w => exact rs
      | al i => exact rs
      | ol _ => exact absurd rfl c
      | od _ => exact absurd rfl c
      | ob _ => exact absurd rfl c
      | lo _ => exact absurd rfl c
      | pl _ => exact absurd rfl c
      | kn F => exact rs
      | nt _ => exact rs
theorem st_nown (st : St K ρ σ B H) {D : Addr} (h : H D = none) : ¬ Ow ρ σ D := fun z => (st.own z).2 h
end
section
variable {X : Cx} {tg iter elt : Expr} {ifs : List Expr} {scope : Scope} {ρ : Rho} {pos p2 : Pos}
/-- the step of a comprehension -/
def LcS (X : Cx) (tg elt : Expr) (ifs : List Expr) (scope : Scope) (vs : List Nat) (I : Nat → List PyData → Rho → Prop) (i : Nat) (x : PyData) (acc : List PyData) (ρ2 : Rho) : Prop :=
  ∀ (s : Shared) (H0 : Hp) (C : Addr) (cl : List (Str × Addr)) (fp : List Addr), DG (X.blk s H0 scope (compEnvC scope cl C X.env) fp) tg x ρ2 fun ρ3 ts => (∀ j ∈ ts, j ∈ vs) ∧
    ∀ (s : Shared) (H0 : Hp) (C : Addr) (cl : List (Str × Addr)) (fp : List Addr), DTs (X.blk s H0 scope (compEnvC scope cl C X.env) fp) ifs ρ3 fun b ρ4 => if b = true then
      ∀ (s : Shared) (H0 : Hp) (C : Addr) (cl : List (Str × Addr)) (fp : List Addr), DE (X.blk s H0 scope (compEnvC scope cl C X.env) fp) elt ρ4 fun r ρ5 => ∃ y, fz r = some y ∧ I (i + 1) (acc ++ [y]) (wipeR ρ5 vs)
      else I (i + 1) acc (wipeR ρ4 vs)
/-- over xs -/
def LcI (X : Cx) (tg elt : Expr) (ifs : List Expr) (scope : Scope) (vs : List Nat) (P : List PyData → Rho → Prop) (xs : List PyData) (ρ1 : Rho) : Prop :=
  xs.length < sizeLine ∧ (wipeR ρ1 vs).map Sl.tag = ρ1.map Sl.tag ∧ ∃ I : Nat → List PyData → Rho → Prop, I 0 [] (wipeR ρ1 vs) ∧
    (∀ i x acc ρ2, xs[i]? = some x → I i acc ρ2 → LcS X tg elt ifs scope vs I i x acc ρ2) ∧ ∀ acc ρ2, I xs.length acc ρ2 → P acc ρ2
theorem lc_core {vs : List Nat} {P : List PyData → Rho → Prop} {σ : L2.St} {B H : Hp} {Qd : Addr → Hp → Prop} (h : DI X tg iter ρ (LcI X tg elt ifs scope vs P)) (st : St X.K ρ σ B H)
    (k : ∀ acc ρ2 B' H' D, P acc ρ2 → Go X.K ρ σ B H ρ2 B' H' → Rr X.K σ H B' H' (.ref D) (.ol acc) → Qd D H') :
    WI X tg iter σ H fun J H1 => ∀ D, H1 D = none → tLcR J (GBlk X scope tg) (TBlk X scope ifs) (EBlk X scope elt) vs σ H1 D (Qd D) := by
  refine h σ B H _ st fun xs ρ1 J B1 H1 hp go wk D hD => ?_
  obtain ⟨hz, htag, I, h0, hs, hd⟩ := hp
  obtain ⟨G, Y, w, hG, hY⟩ := wk.ex
  have stw : St X.K (wipeR ρ1 vs) σ B1 H1 := go.st.wipe vs rfl
  have nD : ∀ {ρ' : Rho} {σ' : L2.St}, (∀ a, Ow ρ' σ' a → Ow (wipeR ρ1 vs) σ a) → ¬ Ow ρ' σ' D := fun z y => (stw.own (z _ y)).2 hD
  refine lc_it w (fun i H' => ∃ B' ρ' acc xs', I i xs' ρ' ∧ xs'.length ≤ i ∧ wipeR ρ' vs = ρ' ∧ ρ'.map Sl.tag = (wipeR ρ1 vs).map Sl.tag ∧ Gr (Ow (wipeR ρ1 vs) σ) B1 H1 B' H' ∧ H' D = some (.lst acc) ∧ B' D = none ∧ DpAll X.K B' acc xs' ∧ St X.K ρ' σ B' H')
    ⟨B1, wipeR ρ1 vs, [], [], h0, Nat.le_refl _, wipeR_idem _ _, rfl, (Gr.refl go.st.k).own hD, upd_same, none_of_ex go.st.k hD, .nil, stw.learn ((Gr.refl go.st.k).own hD)⟩
    (fun i H' _ ⟨B', _, _, _, _, _, _, _, g, _⟩ => hG B' H' g.b g.k) ?_ ?_
  · rintro i v H' H'' hi ⟨B', ρ', acc, xs', hI, hl, hw, ht, g, eD, bD, da, st'⟩ hy
    obtain ⟨x, B'', ex, g2, dx⟩ := hY i B' H' v H'' hi g.b g.k hy
    have st2 : St X.K ρ' (L2.wipe σ vs) B'' H'' := by
      have := (st'.learn g2).wipe vs (σ' := L2.wipe σ vs) (wipe_eq (wipe_length σ vs) fun i m => wipe_out m)
      rw [hw] at this
      exact this
    have o2 : ∀ a, Ow ρ' (L2.wipe σ vs) a → Ow (wipeR ρ1 vs) σ a := fun a z => ow_of ht (by
      rw [← hw] at z ⊢
      exact ow_wipe (wipe_eq (wipe_length σ vs) fun i m => wipe_out m) z)
    intro s H0 C cl fp
    refine hs i x xs' ρ' ex hI s H0 C cl fp (L2.wipe σ vs) B'' H'' v _ st2 dx fun ρ3 ts σ2 ⟨hts, h3⟩ st3 gx => ?_
    have ew : L2.wipe σ2 vs = L2.wipe σ vs := by
      have e1 : L2.wipe σ2 vs = L2.wipe (L2.wipe σ vs) vs := wipe_eq gx.m fun j m => gx.s j fun z => m (hts j z)
      rw [e1]
      exact wipe_eq (wipe_length σ vs) fun i m => wipe_out m
    have er : wipeR ρ3 vs = ρ' := by
      rw [← hw]
      exact wipeR_eq gx.l fun j m => gx.r j fun z => m (hts j z)
    have o3 : ∀ a, Ow ρ3 σ2 a → Ow (wipeR ρ1 vs) σ a := fun a ⟨j, s, e1, e2, e3⟩ => o2 a ⟨j, s, (gx.o j s a e1 e2 e3).1, e2, (gx.o j s a e1 e2 e3).2⟩
    refine ⟨ew, ?_⟩
    intro s H0 C cl fp
    refine h3 s H0 C cl fp σ2 B'' H'' _ st3 fun b ρ4 B4 H4 hb go4 => ?_
    have o4 : ∀ a, Ow ρ4 σ2 a → Ow (wipeR ρ1 vs) σ a := fun a z => o3 a (ow_of go4.w z)
    have eD4 : H4 D = some (.lst acc) := go4.g.h D _ (nD o3) (g2.h D _ (fun z => z) eD)
    have bD4 : B4 D = none := go4.g.f D (g2.f D bD (by rw [eD]; exact fun z => nomatch z)) (by rw [g2.h D _ (fun z => z) eD]; exact fun z => nomatch z)
    have g4 : Gr (Ow (wipeR ρ1 vs) σ) B1 H1 B4 H4 := (g.trans g2.up).trans (go4.g.weak o3)
    have t4 : (wipeR ρ4 vs).map Sl.tag = (wipeR ρ1 vs).map Sl.tag := by
      rw [wipeR_tag go4.w, er, ht]
    cases b with
    | false =>
      rw [if_neg (by decide)] at hb ⊢
      exact ⟨B4, wipeR ρ4 vs, acc, xs', hb, by omega, wipeR_idem _ _, t4, g4, eD4, bD4, DpAll.mono (g2.b.trans go4.g.b) da, go4.st.wipe vs ew.symm⟩
    | true =>
      rw [if_pos rfl] at hb ⊢
      intro s H0 C cl fp
      refine hb s H0 C cl fp σ2 B4 H4 _ go4.st fun r ρ5 u B5 H5 ⟨y, ey, hI'⟩ go5 rr => ?_
      obtain ⟨B6, go6, x6, dy⟩ := Rr.fz go5 rr ey
      have o5 : ∀ a, Ow ρ5 σ2 a → Ow (wipeR ρ1 vs) σ a := fun a z => o4 a (ow_of go6.w z)
      have eD5 : H5 D = some (.lst acc) := go6.g.h D _ (nD o4) eD4
      have bD5 : B6 D = none := go6.g.f D bD4 (by rw [eD4]; exact fun z => nomatch z)
      have st6 : St X.K (wipeR ρ5 vs) σ B6 H5 := go6.st.wipe vs ew.symm
      refine ⟨acc, eD5, by rw [dpAll_len da]; omega, B6, wipeR ρ5 vs, acc ++ [u], xs' ++ [y], hI', by rw [List.length_append, List.length_singleton]; omega, wipeR_idem _ _, by rw [wipeR_tag go6.w, t4],
        (g4.trans (go6.g.weak o4)).mut (.inr hD) bD5, upd_same, bD5, dpA_app (DpAll.mono ((g2.b.trans go4.g.b).trans go6.g.b) da) (.cons dy .nil), st6.upd bD5 (nD fun a z => ?_)⟩
      exact o5 a (ow_wipe0 (ow_wipe (σ := σ2) ew.symm z))
  · rintro H' ⟨B', ρ', acc, xs', hI, hl, hw, ht, g, eD, bD, da, st'⟩
    refine k xs' ρ' B' H' D (hd _ _ hI) ⟨go.g.trans (g.weak fun a z => ow_of go.w (ow_wipe0 z)), ?_, st', st⟩ ⟨D, _, rfl, go.g.free hD, eD, bD, acc, rfl, da⟩
    rw [ht, htag, go.w]
theorem d_lc {P : Sl → Rho → Prop} (own : List (Str × Nat)) (hN : X.N.Nodup) (ok : BlkOk X.N X.env.scope scope own := by exact blkOk_by (by decide +kernel)) (hc : X.calm = true := by rfl) (hs : ∀ x, foldedSetIterable iter X.env x = pure x := by intro _; rfl)
    (h : DI X tg iter ρ (LcI X tg elt ifs scope (own.map (·.2)) fun acc ρ2 => P (.ol acc) ρ2)) : DE X (.ListComp elt [⟨tg, iter, ifs, 0⟩] scope pos) ρ P :=
  fun σ B H Q st k => e_lc own hN ok hc hs (lc_core h st fun acc ρ2 B' H' D q go rr => k _ _ _ B' H' q go rr)
end
end Dw
namespace Dw
open PySem PySem.Spec L2 Evl Lw

def DS (X : Cx) (Γ : Gm) (st : Stmt) (ρ : Rho) (O : Out) : Prop := ∀ σ B H D, SO X.K Γ ρ σ B H → EO X.K Γ O D → WS X st D σ H
def DSs (X : Cx) (Γ : Gm) (ss : List Stmt) (ρ : Rho) (O : Out) : Prop := ∀ σ B H D, SO X.K Γ ρ σ B H → EO X.K Γ O D → WSs X ss D σ H
section
variable {K : PySem.W.Frag} {ρ ρ1 ρ2 : Rho} {σ : L2.St} {B H B1 H1 B2 H2 : Hp} {p : Addr} {v w : V} {r : Sl} {Γ : Gm} {O : Out} {D : Ends}
theorem SO.learn (so : SO K Γ ρ σ B H) (g : Gr M0 B H B1 H1) : SO K Γ ρ σ B1 H1 := so.go (Go.of so.st g)
/-- targets -/
theorem SO.tgt {ts : List Nat} {σ' : L2.St} {ρ' : Rho} (so : SO K Γ ρ σ B H) (st : St K ρ' σ' B H) (g : Gx ρ σ ρ' σ' ts) : SO K Γ ρ' σ' B H :=
  ⟨st, so.g, so.f, fun i s p h1 h2 h3 => so.o i s p (g.o i s p h1 h2 h3).1 h2 (g.o i s p h1 h2 h3).2⟩
/-- an own list stays from now on -/
theorem SO.freeze {i : Nat} {xs : List PyData} (so : SO K Γ ρ σ B H) (h : ρ[i]? = some (.ol xs)) : ∃ B', SO K Γ (ρ.set i (.d (.list xs))) σ B' H ∧ Ex B B' := by
  obtain ⟨o, e1, p, u, e2, e3, e4, vs, e5, e6⟩ := so.st.s i _ h
  subst e2 e5
  have li : i < ρ.length := (List.getElem?_eq_some_iff.mp h).1
  have h0 : Γ.H0 p = none := ((so.o i _ p h rfl e1).resolve_right fun z => nomatch z.1).2
  have x1 : Ex B (upd B p (.lst vs)) := Ex.new e4
  have g : Gr Γ.M Γ.B0 Γ.H0 (upd B p (.lst vs)) H := so.g.learn h0 e4 e3
  refine ⟨_, ⟨⟨g.k, by rw [List.length_set]; exact so.st.l, fun j s hj => ?_, fun j k s t q h1 h2 o1 o2 e1' e2' => ?_⟩, g, so.f.trans x1, fun j s q h1 h2 h3 => ?_⟩, x1⟩
  · by_cases c : i = j
    · subst c
      rw [List.getElem?_set_self li] at hj
      cases hj
      exact ⟨_, e1, .ref p, rfl, .lst (SqL.of upd_same) (DpAll.mono x1 e6)⟩
    · rw [List.getElem?_set_ne c] at hj
      obtain ⟨o, f1, rs⟩ := so.st.s j s hj
      refine ⟨o, f1, ?_⟩
      by_cases cc : s.own = true
      · obtain ⟨q, u, g1, g2, g3, g4⟩ := Rs.get cc rs
        refine Rs.put cc ⟨q, u, g1, g2, ?_, Sh.mono x1 g4⟩
        rw [upd_ne (fun z => c (so.st.u i j _ s p h hj rfl cc e1 (by rw [f1, g1, z])))]
        exact g3
      · cases s with
        | no => trivial
        | d x => obtain ⟨v, e1, e2⟩ := rs; exact ⟨v, e1, Dp.mono x1 e2⟩
        | v w => exact rs
        | al i => exact rs
        | ol _ => exact absurd rfl cc
        | od _ => exact absurd rfl cc
        | ob _ => exact absurd rfl cc
        | lo _ => exact absurd rfl cc
        | pl _ => exact absurd rfl cc
        | kn F => obtain ⟨v, e1, e2⟩ := rs; exact ⟨v, e1, F.m _ _ _ x1 e2⟩
        | nt _ => exact rs
  · have ne : ∀ (j : Nat) (s : Sl), (ρ.set i (Sl.d (.list xs)))[j]? = some s → s.own = true → ρ[j]? = some s := fun j s h o => by
      by_cases c : i = j
      · subst c
        rw [List.getElem?_set_self li] at h
        cases h
        cases o
      · rw [List.getElem?_set_ne c] at h
        exact h
    exact so.st.u j k s t q (ne j s h1 o1) (ne k t h2 o2) o1 o2 e1' e2'
  · have : ρ[j]? = some s := by
      by_cases c : i = j
      · subst c
        rw [List.getElem?_set_self li] at h1
        cases h1
        cases h2
      · rw [List.getElem?_set_ne c] at h1
        exact h1
    exact so.o j s q this h2 h3
/-- forgetting a slot -/
theorem SO.forget (so : SO K Γ ρ σ B H) (i : Nat) : SO K Γ (ρ.set i .no) σ B H := by
  have e : wipeR ρ [i] = ρ.set i .no := rfl
  refine ⟨e ▸ so.st.wipe [i] rfl, so.g, so.f, fun j s q h1 h2 h3 => ?_⟩
  rw [← e] at h1
  rcases wipeR_in h1 with ⟨_, rfl⟩ | ⟨_, h'⟩
  · cases h2
  · exact so.o j s q h' h2 h3
end
section
variable {X : Cx} {Γ : Gm} {a b c e tg iter : Expr} {es : List Expr} {st : Stmt} {ss rest body orelse : List Stmt} {ρ : Rho} {O : Out} {pos p2 p3 pt : Pos} {x y : Str}
theorem ds_nil (q : O.nx ρ) : DSs X Γ [] ρ O := fun σ B H D so eo => s_nil (eo.nx _ _ _ _ q so)
theorem ds_cons (h : DS X Γ st ρ { O with nx := fun ρ' => DSs X Γ rest ρ' O }) : DSs X Γ (st :: rest) ρ O :=
  fun σ B H D so eo => s_cons (h σ B H { D with nx := WSs X rest D } so ⟨fun ρ' σ' B' H' q so' => q σ' B' H' D so' eo, eo.rt, eo.bk, eo.ct⟩)
theorem ds_one (h : DS X Γ st ρ O) : DSs X Γ [st] ρ O := fun σ B H D so eo => s_one (h σ B H D so eo)
theorem ds_freeze (i : Nat) {xs : List PyData} (h : ρ[i]? = some (.ol xs) := by rfl) (q : DSs X Γ ss (ρ.set i (.d (.list xs))) O) : DSs X Γ ss ρ O :=
  fun σ B H D so eo => by
    obtain ⟨B', so', _⟩ := so.freeze h
    exact q σ B' H D so' eo
theorem ds_forget (i : Nat) (q : DSs X Γ ss (ρ.set i .no) O) : DSs X Γ ss ρ O := fun σ B H D so eo => q σ B H D (so.forget i) eo
/-- what holds behind on all ways -/
theorem ds_join (P : Rho → Prop) (h1 : DS X Γ st ρ { O with nx := P }) (h2 : ∀ ρ', P ρ' → DSs X Γ rest ρ' O) : DSs X Γ (st :: rest) ρ O :=
  ds_cons fun σ B H D so eo => h1 σ B H D so ⟨fun ρ' σ' B' H' q so' => eo.nx ρ' σ' B' H' (h2 ρ' q) so', eo.rt, eo.bk, eo.ct⟩
theorem ds_pass (q : O.nx ρ) : DS X Γ (.Pass pos) ρ O := fun σ B H D so eo => s_pass (eo.nx _ _ _ _ q so)
theorem ds_break (q : O.bk ρ) : DS X Γ (.Break pos) ρ O := fun σ B H D so eo => s_break (eo.bk _ _ _ _ q so)
theorem ds_cont (q : O.ct ρ) : DS X Γ (.Continue pos) ρ O := fun σ B H D so eo => s_cont (eo.ct _ _ _ _ q so)
theorem ds_expr (hs : swapsWith e none pos.line X.env = pure false := by rfl) (h : DE X e ρ fun _ ρ' => O.nx ρ') : DS X Γ (.Expr e pos) ρ O :=
  fun σ B H D so eo => s_expr hs (h σ B H _ so.st fun r ρ' v B' H' q go _ => eo.nx _ _ _ _ q (so.go go))
/-- what a def hands back: not what another name holds -/
theorem SO.rt {K : PySem.W.Frag} {ρ1 : Rho} {σ : L2.St} {B H B1 H1 : Hp} {v : V} {r : Sl} (so : SO K Γ ρ σ B H) (go : Go K ρ σ B H ρ1 B1 H1) (h : Rr K σ H B1 H1 v r) : Rr K σ Γ.H0 B1 H1 v r := by
  by_cases c : r.own = true
  · obtain ⟨p, u, e1, e2, e3, e4, e5⟩ := Rr.get c h
    exact Rr.put c ⟨p, u, e1, so.g.free e2, e3, e4, e5⟩
  · cases r with
    | no => trivial
    | d x => exact h
    | v w => exact h
    | al i => exact h
    | ol _ => exact absurd rfl c
    | od _ => exact absurd rfl c
    | ob _ => exact absurd rfl c
    | lo _ => exact absurd rfl c
    | pl _ => exact absurd rfl c
    | kn F => exact h
    | nt xs => obtain ⟨h1, T, vs, e1, e2, e3⟩ := h; exact ⟨h1, T, vs, e1, e2, fun i x hx => by obtain ⟨p, ws, f1, f2, f3⟩ := e3 i x hx; exact ⟨p, ws, f1, so.g.free f2, f3⟩⟩
theorem ds_ret (h : DE X e ρ fun r ρ' => O.rt r ρ') : DS X Γ (.Return (some e) pos) ρ O :=
  fun σ B H D so eo => s_ret (h σ B H _ so.st fun r ρ' v B' H' q go rr => eo.rt _ _ _ _ _ _ q (so.go go) (so.rt go rr))
theorem ds_retN (h : O.rt (.d .none) ρ) : DS X Γ (.Return none pos) ρ O := fun σ B H D so eo => s_retN (eo.rt _ _ _ _ _ _ h so .non)
/-- return x, an own list or dict -/
theorem ds_retO (i : Nat) {s : Sl} (hs : ρ[i]? = some s := by rfl) (ht : s.tag = 1 := by rfl) (hN : X.N[i]? = some x := by rfl) (hv : Vis X.env.scope x := by first | exact Or.inl rfl | exact Or.inr (Or.inl rfl) | exact Or.inr (Or.inr rfl)) (hd : (x == ("__debug__" : Str)) = false := by decide)
    (hcd : (x == ("__classdict__" : Str)) = false := by decide) (q : O.rt s ρ) : DS X Γ (.Return (some (.Name x p2)) pos) ρ O :=
  fun σ B H D so eo => s_ret (by
    have ho : s.own = true := by rw [own_tag, ht]; rfl
    refine d_no i hs ho hN hv hd hcd (P := fun r ρ' => r = .al i ∧ ρ' = ρ) ⟨rfl, rfl⟩ σ B H _ so.st fun r ρ' v B' H' ⟨e1, e2⟩ go rr => ?_
    subst e1 e2
    have so' := so.go go
    obtain ⟨o, f1, rs⟩ := so'.st.s i s hs
    obtain ⟨p, u, g1, g2, g3, g4⟩ := Rs.get ho rs
    subst g1
    have hv : σ[i]? = some (some v) := rr
    rw [f1] at hv
    cases hv
    have h0 : Γ.H0 p = none := ((so'.o i s p hs ho f1).resolve_right fun z => by
      have e0 := z.1
      rw [ht] at e0
      exact nomatch e0).2
    exact eo.rt _ _ _ _ _ _ q so' (Rr.put ho ⟨p, u, rfl, h0, g2, g3, g4⟩))
theorem ds_if (h : DT X c ρ fun k ρ1 => if k = true then DSs X Γ body ρ1 O else DSs X Γ orelse ρ1 O) : DS X Γ (.If c body orelse pos) ρ O :=
  fun σ B H D so eo => s_if (h σ B H _ so.st fun k ρ' B' H' q go => by
    cases k with
    | true =>
      rw [if_pos rfl] at q ⊢
      exact q σ B' H' D (so.go go) eo
    | false =>
      rw [if_neg (by decide)] at q ⊢
      exact q σ B' H' D (so.go go) eo)
theorem ds_set (i : Nat) (hN : X.N.Nodup) (hi : X.N[i]? = some x := by rfl) (hx : Loc X.env.scope x := by first | exact Or.inl rfl | exact Or.inr rfl) (hs : swapsWith e (some (.Name x p2)) pos.line X.env = pure false := by rfl)
    (hf : X.fn x = true ∨ X.env.scope.names.lookup x = some .local := by first | exact .inl rfl | exact .inr rfl | assumption) (h : DE X e ρ fun r ρ' => sto r = true ∧ O.nx (ρ'.set i r)) : DS X Γ (.Assign [.Name x p2] e pos) ρ O :=
  fun σ B H D so eo => s_set i hN hi hx hs hf (h σ B H _ so.st fun r ρ' v B' H' q go rr => eo.nx _ _ _ _ q.2 (so.put go rr q.1))
theorem ds_setLc {elt : Expr} {ifs : List Expr} {scope : Scope} (i : Nat) (own : List (Str × Nat)) (hN : X.N.Nodup) (hy : X.N[i]? = some y := by rfl) (hyl : X.env.scope.names.lookup y = some .local := by rfl)
    (ok : BlkOk X.N X.env.scope scope own := by exact blkOk_by (by decide +kernel)) (hc : X.calm = true := by rfl) (hs : ∀ x, foldedSetIterable iter X.env x = pure x := by intro _; rfl)
    {spos : Pos} (hsw2 : swapsWith (.ListComp elt [⟨tg, iter, ifs, 0⟩] scope pos) (some (.Name y p2)) spos.line X.env = pure true := by exact sw_true rfl rfl rfl (by decide +kernel))
    (h : DI X tg iter ρ (LcI X tg elt ifs scope (own.map (·.2)) fun acc ρ2 => O.nx (ρ2.set i (.ol acc)))) : DS X Γ (.Assign [.Name y p2] (.ListComp elt [⟨tg, iter, ifs, 0⟩] scope pos) spos) ρ O :=
  fun σ B H D so eo => s_setLc i own hN hy hyl ok hc hs hsw2 (lc_core h so.st fun acc ρ2 B' H' D' q go rr => eo.nx _ _ _ _ q (so.put go rr rfl))
/-- a tuple's parts -/
theorem ds_asg (hs : swapsWithSole [tg] e pos.line X.env = pure false := by rfl) (hw : swappedStores [tg] e X.env = pure none := by rfl) (h1 : (assignEach [tg] X.env).map (·.2) = [assign tg X.env] := by rfl)
    (h : DE X e ρ fun r ρ1 => ∃ z, fz r = some z ∧ DG X tg z ρ1 fun ρ2 _ => O.nx ρ2) : DS X Γ (.Assign [tg] e pos) ρ O :=
  fun σ B H D so eo => s_asg hs hw h1 (h σ B H _ so.st fun r ρ1 v B1 H1 ⟨z, e1, q⟩ go rr => by
    obtain ⟨B2, go2, _, d⟩ := Rr.fz go rr e1
    exact q σ B2 H1 v _ go2.st d fun ρ2 ts σ2 q2 st2 gx => eo.nx _ _ _ _ q2 ((so.go go2).tgt st2 gx))
/-- x, y = a, b -/
theorem ds_par (i j : Nat) {px py : Pos} {kt k2 pt2} (hN : X.N.Nodup) (hij : i ≠ j := by decide) (hc : X.calm = true := by rfl) (hi : X.N[i]? = some x := by rfl) (hj : X.N[j]? = some y := by rfl)
    (hx : X.env.scope.names.lookup x = some .local := by rfl) (hy : X.env.scope.names.lookup y = some .local := by rfl) (hw : swappedStores [.Tuple [.Name x px, .Name y py] kt pt] (.Tuple [a, b] k2 pt2) X.env = pure (some [x, y]) := by rfl)
    (hs : swapsWithSole [.Tuple [.Name x px, .Name y py] kt pt] (.Tuple [a, b] k2 pt2) pos.line X.env = pure false := by rfl)
    (h : DE X a ρ fun r ρ1 => sto r = true ∧ DE X b ρ1 fun s ρ2 => sto s = true ∧ O.nx ((ρ2.set i r).set j s)) (ha : starEach [a, b] X.env = (false, eval a X.env) :: starEach [b] X.env := by rfl) (hb : starEach [b] X.env = (false, eval b X.env) :: starEach [] X.env := by rfl) : DS X Γ (.Assign [.Tuple [.Name x px, .Name y py] kt pt] (.Tuple [a, b] k2 pt2) pos) ρ O :=
  fun σ B H D so eo => s_par i j hN hij hc hi hj hx hy hw hs (Lw.a_cons ha (h σ B H _ so.st fun r ρ1 v B1 H1 ⟨s1, q⟩ g1 r1 => Lw.a_cons hb (q σ B1 H1 _ g1.st fun s ρ2 w B2 H2 ⟨s2, q2⟩ g2 r2 => Lw.a_nil ⟨v, w, rfl, by
    have go := g1.trans g2
    have so1 : SO X.K Γ (ρ2.set i r) (σ.set i (some v)) B2 H2 := so.put go (Rr.later g1 g2 r1) s1
    have r2' : Rr X.K σ H1 B2 H2 w s := r2
    refine eo.nx _ _ _ _ q2 ⟨St.put so1.st (fun p o e => ?_) (r2'.rs s2), so1.g, so1.f, fun k t p h1 h2 h3 => ?_⟩
    · rintro ⟨k, t, f1, f2, f3⟩
      obtain ⟨q, u, e1, e2, e3, e4, e5⟩ := Rr.get o r2'
      rw [e] at e1
      cases e1
      by_cases ck : i = k
      · subst ck
        by_cases l : i < ρ2.length
        · rw [List.getElem?_set_self l] at f1
          rw [List.getElem?_set_self (by rw [g2.st.l]; exact l)] at f3
          cases f1
          cases f3
          obtain ⟨q', u', e1', e2', e3', _⟩ := Rr.get f2 r1
          cases e1'
          rw [e2] at e3'
          cases e3'
        · rw [List.getElem?_eq_none (by rw [List.length_set]; omega)] at f1
          cases f1
      · rw [List.getElem?_set_ne ck] at f1 f3
        exact (g1.st.own (ow_of g2.w ⟨k, t, f1, f2, f3⟩)).2 e2
    · by_cases ck : j = k
      · subst ck
        by_cases l : j < (ρ2.set i r).length
        · rw [List.getElem?_set_self l] at h1
          rw [List.getElem?_set_self (by rw [so1.st.l]; exact l)] at h3
          cases h1
          cases h3
          obtain ⟨q, u, e1, e2, _⟩ := Rr.get h2 r2'
          cases e1
          exact .inl ⟨sto_tag s2 h2, (so.go g1).g.free e2⟩
        · rw [List.getElem?_eq_none (by rw [List.length_set]; omega)] at h1
          cases h1
      · rw [List.getElem?_set_ne ck] at h1 h3
        exact so1.o k t p h1 h2 h3⟩)))
/-- n += e, ints -/
theorem ds_augAdd (i : Nat) (hN : X.N.Nodup) {n : Int} (hs : ρ[i]? = some (.d (.int n)) := by rfl) (hi : X.N[i]? = some x := by rfl) (hx : Loc X.env.scope x := by first | exact Or.inl rfl | exact Or.inr rfl) (hf : X.fn x = true ∨ X.env.scope.names.lookup x = some .local := by first | exact .inl rfl | exact .inr rfl | assumption)
    (h : DE X e ρ fun r ρ1 => ∃ m, r = .d (.int m) ∧ O.nx (ρ1.set i (.d (.int (n + m))))) : DS X Γ (.AugAssign (.Name x p2) .Add e pos) ρ O :=
  fun σ B H D so eo => by
    obtain ⟨o, e1, v, e2, d⟩ := so.st.s i _ hs
    cases d
    subst e2
    exact s_augAdd i hN hi hx hf ⟨_, e1, h σ B H _ so.st fun r ρ1 w B1 H1 ⟨m, em, q⟩ go rr => by
      subst em
      exact ⟨n, m, rfl, rr_int rr, eo.nx _ _ _ _ q (so.put go (r := .d (.int (n + m))) (v := .int (n + m)) (.int _) rfl)⟩⟩
abbrev Gm.fl (Γ : Gm) (F : Hp) : Gm := ⟨Γ.B0, Γ.H0, Γ.M, F⟩
theorem EO.fl {K : PySem.W.Frag} {F : Hp} {D : Ends} (h : Ex Γ.F F) (eo : EO K Γ O D) : EO K (Γ.fl F) O D :=
  ⟨fun _ _ _ _ q so => eo.nx _ _ _ _ q ⟨so.st, so.g, h.trans so.f, so.o⟩, fun _ _ _ _ _ _ q so rr => eo.rt _ _ _ _ _ _ q ⟨so.st, so.g, h.trans so.f, so.o⟩ rr, fun _ _ _ _ q so => eo.bk _ _ _ _ q ⟨so.st, so.g, h.trans so.f, so.o⟩, fun _ _ _ _ q so => eo.ct _ _ _ _ q ⟨so.st, so.g, h.trans so.f, so.o⟩⟩
/-- for: by an invariant of the turn -/
theorem ds_for (I : Nat → Rho → Prop) (hp : PassesOwn (model X.prog X.w) X.A X.env X.xe := by exact PassesOwn.never) (hc : X.calm = true := by rfl) (hs : ∀ x, foldedSetIterable iter X.env x = pure x := by intro _; rfl)
    (h : DI X tg iter ρ fun xs ρ1 => I 0 ρ1 ∧ (∀ i z ρ2, xs[i]? = some z → I i ρ2 → ∀ F, DG X tg z ρ2 fun ρ3 _ => DSs X (Γ.fl F) body ρ3 ⟨I (i + 1), O.rt, O.nx, I (i + 1)⟩) ∧ ∀ ρ2, I xs.length ρ2 → O.nx ρ2) : DS X Γ (.For tg iter body [] pos) ρ O :=
  fun σ B H D so eo => s_for hp hc hs (h σ B H _ so.st fun xs ρ1 J B1 H1 ⟨h0, hst, hd⟩ go wk => by
    obtain ⟨G, Y, w, hG, hY⟩ := wk.ex
    have so1 := so.go go
    have up : ∀ {ρ' σ' B' H'}, SO X.K (Γ.fl B1) ρ' σ' B' H' → SO X.K Γ ρ' σ' B' H' := fun s => ⟨s.st, s.g, so1.f.trans s.f, s.o⟩
    refine for_it w (fun i σ' H' => ∃ ρ' B', I i ρ' ∧ SO X.K (Γ.fl B1) ρ' σ' B' H') ⟨ρ1, B1, h0, so1.st, so1.g, Ex.refl B1, so1.o⟩ (fun i σ' H' _ ⟨ρ', B', _, s⟩ => hG B' H' s.f s.st.k) ?_ fun σ' H' ⟨ρ', B', q, s⟩ => eo.nx _ _ _ _ (hd ρ' q) (up s)
    rintro i v σ' H' H'' hi ⟨ρ', B', q, s⟩ hy
    obtain ⟨z, B'', ez, g2, dz⟩ := hY i B' H' v H'' hi s.f s.st.k hy
    have s2 := s.learn g2
    refine hst i z ρ' ez q B1 σ' B'' H'' v _ s2.st dz fun ρ3 ts σ3 q3 st3 gx => ?_
    exact q3 σ3 B'' H'' _ (s2.tgt st3 gx) ⟨fun ρ4 σ4 B4 H4 q4 s4 => ⟨ρ4, B4, q4, s4⟩, fun r ρ4 σ4 u B4 H4 q4 s4 rr => eo.rt _ _ _ _ _ _ q4 (up s4) rr, fun ρ4 σ4 B4 H4 q4 s4 => eo.nx _ _ _ _ q4 (up s4), fun ρ4 σ4 B4 H4 q4 s4 => ⟨ρ4, B4, q4, s4⟩⟩)
/-- while: by an invariant and a measure -/
theorem ds_while (I : Rho → Prop) (μ : Rho → Nat) (hp : PassesOwn (model X.prog X.w) X.A X.env X.xe := by exact PassesOwn.never) (h0 : I ρ)
    (h : ∀ ρ1, I ρ1 → DT X c ρ1 fun k ρ2 => if k = true then DSs X Γ body ρ2 ⟨fun ρ3 => I ρ3 ∧ μ ρ3 < μ ρ1, O.rt, O.nx, fun ρ3 => I ρ3 ∧ μ ρ3 < μ ρ1⟩ else O.nx ρ2) : DS X Γ (.While c body [] pos) ρ O := by
  intro σ B H D so eo
  suffices key : ∀ (n : Nat) (ρ1 : Rho) (σ1 : L2.St) (B1 H1 : Hp), μ ρ1 = n → I ρ1 → SO X.K Γ ρ1 σ1 B1 H1 → ∃ m : Nat, ∃ W : Nat → L2.St → Hp → Prop, W m σ1 H1 ∧ ∀ m σ H, W m σ H → WT X c σ H fun k H1 => if k = true then ∃ N : L2.St → Hp → Prop, (∀ σ' H', N σ' H' → ∃ m', m' < m ∧ W m' σ' H') ∧ WSs X body { D with nx := N, ct := N, bk := D.nx } σ H1 else D.nx σ H1 by
    obtain ⟨m, W, hw, hs⟩ := key _ ρ σ B H rfl h0 so
    refine ⟨_, ps_while hp WT.pt WSs.pss, ?_⟩
    refine ⟨W, ⟨m, hw⟩, fun m σ H hw => ?_⟩
    exact hs m σ H hw
  intro n ρ1 σ1 B1 H1 hn hi so1
  refine ⟨n, fun m σ H => ∃ ρ2 B2, μ ρ2 = m ∧ I ρ2 ∧ SO X.K Γ ρ2 σ B2 H, ⟨ρ1, B1, hn, hi, so1⟩, ?_⟩
  rintro m σ H ⟨ρ2, B2, hm, hi2, so2⟩
  refine h ρ2 hi2 σ B2 H _ so2.st fun k ρ3 B3 H3 q go => ?_
  cases k with
  | true =>
    rw [if_pos rfl] at q ⊢
    refine ⟨fun σ' H' => ∃ ρ4 B4, I ρ4 ∧ μ ρ4 < m ∧ SO X.K Γ ρ4 σ' B4 H', fun σ' H' ⟨ρ4, B4, i4, l4, s4⟩ => ⟨μ ρ4, l4, ρ4, B4, rfl, i4, s4⟩, ?_⟩
    exact q σ B3 H3 _ (so2.go go) ⟨fun ρ4 σ4 B4 H4 q4 s4 => ⟨ρ4, B4, q4.1, hm ▸ q4.2, s4⟩, eo.rt, eo.nx, fun ρ4 σ4 B4 H4 q4 s4 => ⟨ρ4, B4, q4.1, hm ▸ q4.2, s4⟩⟩
  | false =>
    rw [if_neg (by decide)] at q ⊢
    exact eo.nx _ _ _ _ q (so2.go go)
end
end Dw
namespace Dw
open PySem PySem.Spec L2 Evl Lw

/-! ### own objects change -/
section
variable {K : PySem.W.Frag} {ρ ρ1 ρ2 : Rho} {σ : L2.St} {B H B1 H1 B2 H2 : Hp} {p : Addr} {v w : V} {r s t : Sl} {i : Nat}
/-- what the own slot i holds -/
theorem St.at_ (st : St K ρ σ B H) (h : ρ[i]? = some s) (ho : s.own = true) : ∃ p u, σ[i]? = some (some (.ref p)) ∧ H p = some u ∧ B p = none ∧ Sh K B u s := by
  obtain ⟨o, e, rs⟩ := st.s i s h
  obtain ⟨p, u, e1, e2, e3, e4⟩ := Rs.get ho rs
  exact ⟨p, u, by rw [e, e1], e2, e3, e4⟩
theorem tag_own (h : s.own = true) (e : t.tag = s.tag) : t.own = true := by rw [own_tag] at h ⊢; rw [e]; exact h
theorem Go.change (st : St K ρ σ B H) (h : ρ[i]? = some s) (ho : s.own = true) (e : σ[i]? = some (some (.ref p))) {u : HO} (ht : t.tag = s.tag) (hs : Sh K B u t) : Go K ρ σ B H (ρ.set i t) B (upd H p u) := by
  have li : i < ρ.length := (List.getElem?_eq_some_iff.mp h).1
  obtain ⟨p', u', e1, e2, e3, e4⟩ := st.at_ h ho
  rw [e] at e1
  cases e1
  have hto : t.own = true := tag_own ho ht
  have key : ∀ (j : Nat) (q : Sl), (ρ.set i t)[j]? = some q → (j = i ∧ q = t) ∨ (j ≠ i ∧ ρ[j]? = some q) := fun j q h => by
    by_cases c : i = j
    · subst c
      rw [List.getElem?_set_self li] at h
      exact .inl ⟨rfl, (Option.some.inj h).symm⟩
    · rw [List.getElem?_set_ne c] at h
      exact .inr ⟨fun z => c z.symm, h⟩
  refine ⟨(Gr.refl st.k).mut (.inl ⟨i, s, h, ho, e⟩) e3, ?_, ⟨fun a o hb => ?_, by rw [List.length_set]; exact st.l, fun j q hj => ?_, fun j k q r a h1 h2 o1 o2 f1 f2 => ?_⟩, st⟩
  · rw [List.map_set, ht]
    apply List.ext_getElem?
    intro j
    by_cases c : i = j
    · subst c
      rw [List.getElem?_set_self (by rw [List.length_map]; exact li), List.getElem?_map, h]
      rfl
    · rw [List.getElem?_set_ne c]
  · rw [upd_ne (fun z => by rw [z, e3] at hb; cases hb)]
    exact st.k a o hb
  · rcases key j q hj with ⟨rfl, rfl⟩ | ⟨n, hj'⟩
    · exact ⟨_, e, Rs.put hto ⟨p, u, rfl, upd_same, e3, hs⟩⟩
    · obtain ⟨o, f1, rs⟩ := st.s j q hj'
      refine ⟨o, f1, ?_⟩
      by_cases c : q.own = true
      · obtain ⟨a, w, g1, g2, g3, g4⟩ := Rs.get c rs
        exact Rs.put c ⟨a, w, g1, by rw [upd_ne (fun z => n (st.u j i q s p hj' h c ho (by rw [f1, g1, z]) e))]; exact g2, g3, g4⟩
      · cases q with
        | no => trivial
        | d x => exact rs
        | v w => exact rs
        | al i => exact rs
        | ol _ => exact absurd rfl c
        | od _ => exact absurd rfl c
        | ob _ => exact absurd rfl c
        | lo _ => exact absurd rfl c
        | pl _ => exact absurd rfl c
        | kn F => exact rs
        | nt _ => exact rs
  · rcases key j q h1 with ⟨rfl, rfl⟩ | ⟨n1, h1'⟩
    · rcases key k r h2 with ⟨rfl, rfl⟩ | ⟨n2, h2'⟩
      · rfl
      · exact st.u _ _ s r a h h2' ho o2 f1 f2
    · rcases key k r h2 with ⟨rfl, rfl⟩ | ⟨n2, h2'⟩
      · exact st.u _ _ q s a h1' h o1 ho f1 f2
      · exact st.u _ _ q r a h1' h2' o1 o2 f1 f2
end
section
variable {X : Cx} {Γ : Gm} {a b c e o tg iter : Expr} {es : List Expr} {st : Stmt} {ss rest body orelse : List Stmt} {ρ : Rho} {O : Out} {pos p2 p3 pt ap : Pos} {x y : Str} {P : Sl → Rho → Prop}
theorem tyL {K : PySem.W.Frag} {H : Hp} {p : Addr} {vs : List V} (h : SqL K H p vs) : tyV K "list" (.ref p) H := .inl ⟨rfl, vs, h⟩
theorem tyD {K : PySem.W.Frag} {H : Hp} {p : Addr} {kvs : List (L2.Key × V)} (h : H p = some (.dK kvs)) : tyV K "dict" (.ref p) H := .inr (.inr (.inl ⟨rfl, .inl ⟨kvs, h⟩⟩))
/-- xs.append(e), xs an own list -/
theorem d_append (i : Nat) (hN : X.N[i]? = some x := by rfl) (hv : Vis X.env.scope x := by first | exact Or.inl rfl | exact Or.inr (Or.inl rfl) | exact Or.inr (Or.inr rfl)) (hd : (x == ("__debug__" : Str)) = false := by decide)
    (hcd : (x == ("__classdict__" : Str)) = false := by decide) {zs0 : List PyData} (h0 : ρ[i]? = some (.ol zs0) := by rfl)
    (h : DE X e ρ fun r ρ1 => ∃ y zs, fz r = some y ∧ ρ1[i]? = some (.ol zs) ∧ zs.length < sizeLine ∧ P (.d .none) (ρ1.set i (.ol (zs ++ [y]))))
    (hbase : attributeBase (.Name x p2) "append" X.env (eval (.Name x p2) X.env) = eval (.Name x p2) X.env := by rfl)
    (hfew : ((backTo pos (starEach (e :: []) X.env)).all (fun x => !x.1) && (backToKw pos (keywordEach [] X.env)).all (fun x => x.1.isSome)
      && decide ((e :: ([] : List Expr)).length + ([] : List Keyword).length + (if ([] : List Keyword).isEmpty then 0 else 1) < 30)) = true := by rfl)
    (hline : (ap.endLine == pos.line) = true := by rfl) (hs : starEach (e :: []) X.env = (false, eval e X.env) :: starEach [] X.env := by rfl) (hplain : (backTo pos (starEach [] X.env)).any (·.1) = false := by rfl) :
    DE X (.Call (.Attribute (.Name x p2) "append" ap) [e] [] pos) ρ P := by
  intro σ B H Q st k
  refine e_bm PySem.F.plainAttrs_list PySem.F.slot_list_append PySem.F.type_list_append mt_append (h := ?_) hbase hfew hline hs hplain
  obtain ⟨p0, u0, e0, f1, f2, vs0, rfl, f3⟩ := st.at_ h0 rfl
  refine ⟨_, pe_var hN hv hd hcd, _, e0, tyL (SqL.of f1), ?_⟩
  refine Lw.a_cons hs (h σ B H _ st fun r ρ1 w B1 H1 ⟨y, zs, ey, h1, hl, q⟩ go rr => ?_)
  obtain ⟨B2, go2, _, dy⟩ := Rr.fz go rr ey
  obtain ⟨p, u, e1, g1, g2, vs, rfl, g3⟩ := go2.st.at_ h1 rfl
  rw [e0] at e1
  cases e1
  refine Lw.a_nil ⟨p0, vs, w, rfl, rfl, g1, by rw [dpAll_len g3]; exact hl, ?_⟩
  have gc := Go.change (t := .ol (zs ++ [y])) (u := .lst (vs ++ [w])) go2.st h1 rfl e0 rfl ⟨_, rfl, dpA_app g3 (.cons dy .nil)⟩
  exact k _ _ _ _ _ q (go2.trans gc) .non
/-- xs.pop(e), xs an own list -/
theorem d_popAt (i : Nat) (hN : X.N[i]? = some x := by rfl) (hv : Vis X.env.scope x := by first | exact Or.inl rfl | exact Or.inr (Or.inl rfl) | exact Or.inr (Or.inr rfl)) (hd : (x == ("__debug__" : Str)) = false := by decide)
    (hcd : (x == ("__classdict__" : Str)) = false := by decide) {zs0 : List PyData} (h0 : ρ[i]? = some (.ol zs0) := by rfl)
    (h : DE X e ρ fun r ρ1 => ∃ (j : Nat) (y : PyData) (zs : List PyData), r = .d (.int (j : Nat)) ∧ ρ1[i]? = some (.ol zs) ∧ zs.length < 2 ^ 62 ∧ zs[j]? = some y ∧ P (.d y) (ρ1.set i (.ol (zs.eraseIdx j))))
    (hbase : attributeBase (.Name x p2) "pop" X.env (eval (.Name x p2) X.env) = eval (.Name x p2) X.env := by rfl)
    (hfew : ((backTo pos (starEach (e :: []) X.env)).all (fun x => !x.1) && (backToKw pos (keywordEach [] X.env)).all (fun x => x.1.isSome)
      && decide ((e :: ([] : List Expr)).length + ([] : List Keyword).length + (if ([] : List Keyword).isEmpty then 0 else 1) < 30)) = true := by rfl)
    (hline : (ap.endLine == pos.line) = true := by rfl) (hs : starEach (e :: []) X.env = (false, eval e X.env) :: starEach [] X.env := by rfl) (hplain : (backTo pos (starEach [] X.env)).any (·.1) = false := by rfl) :
    DE X (.Call (.Attribute (.Name x p2) "pop" ap) [e] [] pos) ρ P := by
  intro σ B H Q st k
  refine e_bm PySem.F.plainAttrs_list PySem.F.slot_list_pop PySem.F.type_list_pop mt_popAt (h := ?_) hbase hfew hline hs hplain
  obtain ⟨p0, u0, e0, f1, f2, vs0, rfl, f3⟩ := st.at_ h0 rfl
  refine ⟨_, pe_var hN hv hd hcd, _, e0, tyL (SqL.of f1), ?_⟩
  refine Lw.a_cons hs (h σ B H _ st fun r ρ1 w B1 H1 ⟨j, y, zs, er, h1, hl, hj, q⟩ go rr => ?_)
  subst er
  obtain ⟨p, u, e1, g1, g2, vs, rfl, g3⟩ := go.st.at_ h1 rfl
  rw [e0] at e1
  cases e1
  obtain ⟨z, hz, dz⟩ := dpA_at g3 hj
  have lj : j < zs.length := (List.getElem?_eq_some_iff.mp hj).1
  refine Lw.a_nil ⟨p0, vs, (j : Nat), j, z, rfl, by rw [rr_int rr], g1, by omega, by omega, ?_, hz, ?_⟩
  · unfold seqIndex?
    rw [dpAll_len g3]
    have c0 : ¬ ((j : Nat) : Int) < 0 := by omega
    simp only [c0, if_false]
    rw [if_pos (by simp; omega)]
    rfl
  have gc := Go.change (t := .ol (zs.eraseIdx j)) (u := .lst (vs.eraseIdx j)) go.st h1 rfl e0 rfl ⟨_, rfl, dpA_erase j g3⟩
  exact k _ _ _ _ _ q (go.trans gc) dz
/-- xs[i] = e, xs an own list -/
theorem ds_sub (i : Nat) (hN : X.N[i]? = some x := by rfl) (hv : Vis X.env.scope x := by first | exact Or.inl rfl | exact Or.inr (Or.inl rfl) | exact Or.inr (Or.inr rfl)) (hd : (x == ("__debug__" : Str)) = false := by decide)
    (hcd : (x == ("__classdict__" : Str)) = false := by decide)
    (h : DE X e ρ fun r ρ1 => ∃ y, fz r = some y ∧ DE X b ρ1 fun s ρ2 => ∃ j zs n, s = .d (.int j) ∧ ρ2[i]? = some (.ol zs) ∧ ixN zs.length j = some n ∧ O.nx (ρ2.set i (.ol (zs.set n y)))) {spos : Pos}
    (ho : ∀ (ρ1 ρ2 : Rho), ρ1.map Sl.tag = ρ2.map Sl.tag → True := by intros; trivial)
    (ha : ∀ v, assign (.Subscript (.Name x p2) b spos) X.env v = (do
      let ov ← holding [v] (eval (.Name x p2) X.env)
      let iv ← holding [v, ov] (eval b X.env)
      standAt spos
      holding [v, ov, iv] (setItem ov iv v)
      release [v, ov, iv] []) := by intro _; rfl)
    (hs : swapsWithSole [.Subscript (.Name x p2) b spos] e pos.line X.env = pure false := by rfl) (hw : swappedStores [.Subscript (.Name x p2) b spos] e X.env = pure none := by rfl) (h1 : (assignEach [.Subscript (.Name x p2) b spos] X.env).map (·.2) = [assign (.Subscript (.Name x p2) b spos) X.env] := by rfl)
    {zs0 : List PyData} (h0 : ρ[i]? = some (.ol zs0) := by rfl) :
    DS X Γ (.Assign [.Subscript (.Name x p2) b spos] e pos) ρ O := by
  intro σ B H D so eo
  obtain ⟨p0, u0, e0, _⟩ := so.st.at_ h0 rfl
  refine s_sub (h σ B H _ so.st fun r ρ1 w B1 H1 ⟨y, ey, q1⟩ go rr => ?_) ha hs hw h1
  obtain ⟨B2, go2, _, dy⟩ := Rr.fz go rr ey
  refine ⟨_, pe_var hN hv hd hcd, _, e0, ?_⟩
  refine q1 σ B2 H1 _ go2.st fun s ρ2 w2 B3 H3 ⟨j, zs, n, es, hz, hn, q⟩ go3 r3 => ?_
  subst es
  obtain ⟨p, u, e1, g1, g2, vs, rfl, g3⟩ := go3.st.at_ hz rfl
  rw [e0] at e1
  cases e1
  refine ⟨p0, vs, j, n, rfl, rr_int r3, g1, by rw [dpAll_len g3]; exact hn, ?_⟩
  have gc := Go.change (t := .ol (zs.set n y)) (u := .lst (vs.set n w)) go3.st hz rfl e0 rfl ⟨_, rfl, dpA_set n g3 (Dp.mono go3.g.b dy)⟩
  exact eo.nx _ _ _ _ q (so.go ((go2.trans go3).trans gc))
/-- xs[i] = e, xs a list that was handed in -/
theorem ds_subP (i : Nat) (hN : X.N[i]? = some x := by rfl) (hv : Vis X.env.scope x := by first | exact Or.inl rfl | exact Or.inr (Or.inl rfl) | exact Or.inr (Or.inr rfl)) (hd : (x == ("__debug__" : Str)) = false := by decide)
    (hcd : (x == ("__classdict__" : Str)) = false := by decide)
    (h : DE X e ρ fun r ρ1 => ∃ y, fz r = some y ∧ DE X b ρ1 fun s ρ2 => ∃ j zs n, s = .d (.int j) ∧ ρ2[i]? = some (.pl zs) ∧ ixN zs.length j = some n ∧ O.nx (ρ2.set i (.pl (zs.set n y)))) {spos : Pos}
    (ho : ∀ (ρ1 ρ2 : Rho), ρ1.map Sl.tag = ρ2.map Sl.tag → True := by intros; trivial)
    (ha : ∀ v, assign (.Subscript (.Name x p2) b spos) X.env v = (do
      let ov ← holding [v] (eval (.Name x p2) X.env)
      let iv ← holding [v, ov] (eval b X.env)
      standAt spos
      holding [v, ov, iv] (setItem ov iv v)
      release [v, ov, iv] []) := by intro _; rfl)
    (hs : swapsWithSole [.Subscript (.Name x p2) b spos] e pos.line X.env = pure false := by rfl) (hw : swappedStores [.Subscript (.Name x p2) b spos] e X.env = pure none := by rfl) (h1 : (assignEach [.Subscript (.Name x p2) b spos] X.env).map (·.2) = [assign (.Subscript (.Name x p2) b spos) X.env] := by rfl)
    {zs0 : List PyData} (h0 : ρ[i]? = some (.pl zs0) := by rfl) :
    DS X Γ (.Assign [.Subscript (.Name x p2) b spos] e pos) ρ O := by
  intro σ B H D so eo
  obtain ⟨p0, u0, e0, _⟩ := so.st.at_ h0 rfl
  refine s_sub (h σ B H _ so.st fun r ρ1 w B1 H1 ⟨y, ey, q1⟩ go rr => ?_) ha hs hw h1
  obtain ⟨B2, go2, _, dy⟩ := Rr.fz go rr ey
  refine ⟨_, pe_var hN hv hd hcd, _, e0, ?_⟩
  refine q1 σ B2 H1 _ go2.st fun s ρ2 w2 B3 H3 ⟨j, zs, n, es, hz, hn, q⟩ go3 r3 => ?_
  subst es
  obtain ⟨p, u, e1, g1, g2, vs, rfl, g3⟩ := go3.st.at_ hz rfl
  rw [e0] at e1
  cases e1
  refine ⟨p0, vs, j, n, rfl, rr_int r3, g1, by rw [dpAll_len g3]; exact hn, ?_⟩
  have gc := Go.change (t := .pl (zs.set n y)) (u := .lst (vs.set n w)) go3.st hz rfl e0 rfl ⟨_, rfl, dpA_set n g3 (Dp.mono go3.g.b dy)⟩
  exact eo.nx _ _ _ _ q (so.go ((go2.trans go3).trans gc))
end

/-! ### calls -/
/-- a def's promise: of its arguments' slots, what it hands back, and the slots then -/
abbrev Con := List Sl → (Sl → List Sl → Prop) → Prop
def GC (K : PySem.W.Frag) (c : Con) : Sp := fun vs H Q _ => ∃ (B : Hp) (as : List Sl), St K as (vs.map some) B H ∧ c as fun r as' => ∀ v B' H', Go K as (vs.map some) B H as' B' H' → Rr K (vs.map some) H B' H' v r → Q v H'
/-- slots that hold data -/
abbrev dat (xs : List PyData) : List Sl := xs.map Sl.d
section
variable {X : Cx} {Γ : Gm} {a b c e o tg iter : Expr} {es : List Expr} {ρ : Rho} {O : Out} {pos p2 p3 pt ap : Pos} {x y : Str} {P : Sl → Rho → Prop} {co : Con} {k : Nat} {ps ks : List Str}
theorem dat_own {xs : List PyData} {i : Nat} {s : Sl} (h : (dat xs)[i]? = some s) : s.own = false := by
  rw [List.getElem?_map] at h
  cases q : xs[i]? with
  | none => rw [q] at h; cases h
  | some y => rw [q] at h; cases h; rfl
theorem st_dat {K : PySem.W.Frag} {B H : Hp} (kk : Ex B H) : ∀ {vs : List V} {xs : List PyData}, DpAll K B vs xs → St K (dat xs) (vs.map some) B H := fun {vs xs} d => by
  refine ⟨kk, by rw [List.length_map, List.length_map, dpAll_len d], fun i s h => ?_, fun i j s t p h1 h2 o1 _ _ _ => by rw [dat_own h1] at o1; cases o1⟩
  rw [List.getElem?_map] at h
  cases q : xs[i]? with
  | none => rw [q] at h; cases h
  | some y =>
    rw [q] at h
    cases h
    obtain ⟨v, e1, e2⟩ := dpA_at d q
    exact ⟨some v, by rw [List.getElem?_map, e1]; rfl, v, rfl, e2⟩
theorem ow_dat {xs : List PyData} {σ : L2.St} {p : Addr} : ¬ Ow (dat xs) σ p := fun ⟨i, s, h1, h2, _⟩ => by rw [dat_own h1] at h2; cases h2
/-- a result that needs no slots -/
def noAl : Sl → Bool
  | .al _ => false
  | _ => true
theorem Rr.any {K : PySem.W.Frag} {σ σ' : L2.St} {H B' H' : Hp} {v : V} {r : Sl} (n : noAl r = true) (h : Rr K σ H B' H' v r) : Rr K σ' H B' H' v r := by
  cases r with
  | al _ => cases n
  | _ => exact h
/-- of data alone -/
theorem gc_call {K : PySem.W.Frag} {σ : L2.St} {B H : Hp} {vs : List V} {xs : List PyData} {Q : VK} {E : XK} (st : St K ρ σ B H) (d : DpAll K B vs xs) (h : co (dat xs) fun r _ => noAl r = true ∧ P r ρ)
    (k : ∀ r v B' H', P r ρ → Go K ρ σ B H ρ B' H' → Rr K σ H B' H' v r → Q v H') (hm : ∀ {P1 P2 : Sl → List Sl → Prop}, (∀ r l, P1 r l → P2 r l) → co (dat xs) P1 → co (dat xs) P2) : GC K co vs H Q E :=
  ⟨B, dat xs, st_dat st.k d, hm (fun r l ⟨n, q⟩ v B' H' go rr => k r v B' H' q (Go.of st (go.g.weak fun a z => (ow_dat z).elim)) (rr.any n)) h⟩
/-- a promise asks for no more than what it says -/
def Mon (co : Con) : Prop := ∀ as (P1 P2 : Sl → List Sl → Prop), (∀ r l, P1 r l → P2 r l) → co as P1 → co as P2
/-- a def that is called by its name -/
def CalW (X : Cx) (x : Str) (sp : Sp) : Prop := ∀ (e : Expr) (es : List Expr) (p2 pos : Pos) (σ : L2.St) (H : Hp) (Q : VK), starEach (e :: es) X.env = (false, eval e X.env) :: starEach es X.env → (backTo pos (starEach es X.env)).any (·.1) = false →
  WA X (e :: es) σ H (fun vs H1 => sp vs H1 Q E0) → WE X (.Call (.Name x p2) (e :: es) [] pos) σ H Q
theorem calW (cl : Cal X.prog X.w X.K X.mg X.base x k ps (GC X.K co)) (hr : Room k X.A) (hg : Gl X x := by rfl) (hdb : (x == ("__debug__" : Str)) = false := by decide) : CalW X x (GC X.K co) := fun _ _ _ _ _ _ _ he hpl h => e_call cl hr hg hdb he hpl h
theorem d_call (cl : CalW X x (GC X.K co)) (mo : Mon co) (he : starEach (e :: es) X.env = (false, eval e X.env) :: starEach es X.env := by rfl) (hpl : (backTo pos (starEach es X.env)).any (·.1) = false := by rfl)
    (h : DA X (e :: es) ρ fun rs ρ1 => ∃ xs, allD rs = some xs ∧ co (dat xs) fun r _ => noAl r = true ∧ P r ρ1) : DE X (.Call (.Name x p2) (e :: es) [] pos) ρ P :=
  fun σ B H Q st k => cl _ _ _ _ _ _ _ he hpl (h σ B H _ st fun rs ρ1 vs B1 H1 ⟨xs, ex, q⟩ go ra => gc_call go.st (rrA_all ra ex) q (fun r v B' H' q go2 rr => k _ _ _ _ _ q (go.trans go2) (Rr.early go rr)) (mo _ _ _))
theorem d_call0 (cl : Cal X.prog X.w X.K X.mg X.base x k ps (GC X.K co)) (mo : Mon co) (hr : Room k X.A) (hg : Gl X x := by rfl) (hdb : (x == ("__debug__" : Str)) = false := by decide)
    (h : co [] fun r _ => noAl r = true ∧ P r ρ) : DE X (.Call (.Name x p2) [] [] pos) ρ P :=
  fun σ B H Q st k => e_call0 cl hr hg hdb (gc_call st .nil h (fun r v B' H' q go2 rr => k _ _ _ _ _ q go2 rr) (mo _ _ _))
/-- by keywords alone -/
theorem d_callK {kws : List Keyword} {g : {α : Type} → List α → List α} (cl : CalK X.prog X.w X.K X.mg X.base x k ps ks g (GC X.K co)) (mo : Mon co) (hr : Room k X.A) (hgv : ∀ {B : Hp} {vs : List V} {xs : List PyData}, DpAll X.K B vs xs → DpAll X.K B (g vs) (g xs)) (hg : Gl X x := by rfl) (hdb : (x == ("__debug__" : Str)) = false := by decide)
    (hall : (backToKw pos (keywordEach kws X.env)).all (·.1.isSome) = true := by rfl) (hks : (backToKw pos (keywordEach kws X.env)).filterMap (·.1) = ks := by rfl)
    (hpl : ((backTo pos (starEach [] X.env)).any (·.1) || (backToKw pos (keywordEach kws X.env)).any (·.1.isNone)) = false := by rfl)
    (h : DK X kws ρ fun rs ρ1 => rs.length = ks.length ∧ ∃ xs, allD rs = some xs ∧ co (dat (g xs)) fun r _ => noAl r = true ∧ P r ρ1) : DE X (.Call (.Name x p2) [] kws pos) ρ P :=
  fun σ B H Q st k => e_callK cl hr hg hdb hall hks hpl (h σ B H _ st fun rs ρ1 vs B1 H1 ⟨hl, xs, ex, q⟩ go ra => by
    have d := rrA_all ra ex
    have ln : ∀ {vs : List V} {rs : List Sl}, RrA X.K σ H B1 H1 vs rs → vs.length = rs.length := fun {vs rs} h => by
      induction h with
      | nil => rfl
      | cons _ _ ih => rw [List.length_cons, List.length_cons, ih]
    exact ⟨rfl, by rw [ln ra, hl], gc_call go.st (hgv d) q (fun r v B' H' q go2 rr => k _ _ _ _ _ q (go.trans go2) (Rr.early go rr)) (mo _ _ _)⟩)
end
end Dw
namespace Dw
open PySem PySem.Spec L2 Evl Lw

/-! ### defs -/
section
variable {P : Program} {w : World} {K : PySem.W.Frag} {mg : Str → Option Value} {base : Heap} {x : Str} {st : Stmt} {N ps ks : List Str} {k : Nat} {co : Con}
def pads (N : List Str) (n : Nat) : List Sl := List.replicate (N.length - n) .no
theorem st_start {as : List Sl} {vs : List V} {B H : Hp} (h : St K as (vs.map some) B H) (hl : as.length ≤ N.length) : St K (as ++ pads N as.length) (L2.start N vs) B H := by
  have e0 : vs.length = as.length := by have := h.l; rwa [List.length_map] at this
  have e1 : ∀ (i : Nat) (s : Sl), (as ++ pads N as.length)[i]? = some s → s = .no ∨ (i < as.length ∧ as[i]? = some s) := fun i s hi => by
    by_cases c : i < as.length
    · rw [List.getElem?_append_left c] at hi
      exact .inr ⟨c, hi⟩
    · rw [List.getElem?_append_right (by omega)] at hi
      unfold pads at hi
      exact .inl (List.eq_of_mem_replicate (List.mem_of_getElem? hi))
  have e2 : ∀ i, i < as.length → (L2.start N vs)[i]? = (vs.map some)[i]? := fun i c => by
    unfold L2.start
    rw [List.getElem?_append_left (by rw [List.length_map]; omega)]
  have e3 : (L2.start N vs).length = (as ++ pads N as.length).length := by
    unfold L2.start pads
    rw [List.length_append, List.length_append, List.length_map, List.length_replicate, List.length_replicate]
    omega
  refine ⟨h.k, e3, fun i s hi => ?_, fun i j s t p h1 h2 o1 o2 f1 f2 => ?_⟩
  · have li : i < (L2.start N vs).length := by rw [e3]; exact (List.getElem?_eq_some_iff.mp hi).1
    rcases e1 i s hi with rfl | ⟨c, hi'⟩
    · exact ⟨_, List.getElem?_eq_getElem li, trivial⟩
    · obtain ⟨o, g1, g2⟩ := h.s i s hi'
      exact ⟨o, by rw [e2 i c]; exact g1, g2⟩
  · rcases e1 i s h1 with rfl | ⟨c1, h1'⟩
    · cases o1
    · rcases e1 j t h2 with rfl | ⟨c2, h2'⟩
      · cases o2
      · rw [e2 i c1] at f1
        rw [e2 j c2] at f2
        exact h.u i j s t p h1' h2' o1 o2 f1 f2
theorem so_start {as : List Sl} {vs : List V} {B H : Hp} (h : St K as (vs.map some) B H) (hl : as.length ≤ N.length) (h2 : ∀ (i : Nat) (s : Sl), as[i]? = some s → s.own = true → s.tag = 2) : SO K ⟨B, H, Ow as (vs.map some), B⟩ (as ++ pads N as.length) (L2.start N vs) B H := by
  have s0 := st_start (N := N) h hl
  refine ⟨s0, Gr.refl h.k, Ex.refl B, fun i s p h1 h3 h4 => ?_⟩
  have e0 : vs.length = as.length := by have := h.l; rwa [List.length_map] at this
  by_cases c : i < as.length
  · rw [List.getElem?_append_left c] at h1
    have f : (L2.start N vs)[i]? = (vs.map some)[i]? := by
      unfold L2.start
      rw [List.getElem?_append_left (by rw [List.length_map]; omega)]
    rw [f] at h4
    exact .inr ⟨h2 i s h1 h3, i, s, h1, h3, h4⟩
  · rw [List.getElem?_append_right (by omega)] at h1
    unfold pads at h1
    have := List.eq_of_mem_replicate (List.mem_of_getElem? h1)
    subst this
    cases h3
/-- the body of a def of data alone -/
theorem core_p {X : Cx} {ss : List Stmt} {n : Nat} {vs : List V} {H : Hp} {Q : VK} {E : XK} (hpn : n ≤ X.N.length) (sh : ∀ as P1, co as P1 → as.length = n ∧ ∃ xs, as = dat xs)
    (body : ∀ (Γ : Gm) (xs : List PyData) (P1 : Sl → List Sl → Prop), co (dat xs) P1 → DSs X Γ ss (dat xs ++ pads X.N n) ⟨fun _ => P1 (.d .none) (dat xs), fun r _ => noAl r = true ∧ P1 r (dat xs), fun _ => False, fun _ => False⟩)
    (h : GC X.K co vs H Q E) : WSs X ss { nx := fun _ H' => Q .non H', rt := Q } (L2.start X.N vs) H := by
  obtain ⟨B, as, st0, hc⟩ := h
  obtain ⟨hl, xs, rfl⟩ := sh _ _ hc
  have hb := body ⟨B, H, Ow (dat xs) (vs.map some), B⟩ xs _ hc
  have fin : ∀ {r : Sl} {ρ' : Rho} {σ' : L2.St} {v : V} {B' H' : Hp}, noAl r = true → (∀ v B' H', Go X.K (dat xs) (vs.map some) B H (dat xs) B' H' → Rr X.K (vs.map some) H B' H' v r → Q v H') → SO X.K ⟨B, H, Ow (dat xs) (vs.map some), B⟩ ρ' σ' B' H' → Rr X.K σ' H B' H' v r → Q v H' := fun n q so rr =>
    q _ _ _ (Go.of st0 (so.g.weak fun a z => (ow_dat z).elim)) (rr.any n)
  rw [← hl] at hb
  exact hb _ _ _ _ (so_start st0 (by rw [hl]; exact hpn) fun i s h1 h2 => by rw [dat_own h1] at h2; cases h2)
    ⟨fun ρ' σ' B' H' q so => fin (r := .d .none) rfl q so .non, fun r ρ' σ' v B' H' q so rr => fin q.1 q.2 so rr, fun _ _ _ _ q _ => q.elim, fun _ _ _ _ q _ => q.elim⟩
theorem len_gc (sh : ∀ as P1, co as P1 → as.length = ps.length) : ∀ vs H Q E, GC K co vs H Q E → vs.length = ps.length := fun vs H Q E h => by
  obtain ⟨B, as, st0, hc⟩ := h
  have := st0.l
  rw [List.length_map, sh _ _ hc] at this
  exact this
/-- a def of data alone -/
theorem ok_p (S : FnScope N ps (defScope st)) (hpn : ps.length ≤ N.length) (sh : ∀ as P1, co as P1 → as.length = ps.length ∧ ∃ xs, as = dat xs)
    (body : ∀ (f : Addr) (cdv : Value) (A : Around) (outer : List Env) (s : Shared) (H : Hp) (E : XK) (Γ : Gm) (xs : List PyData) (P1 : Sl → List Sl → Prop), Room k (A.deeper (PyProof.Rows.envOfC x (defScope st) s.heap.objs.size f cdv)) → co (dat xs) P1 →
      DSs (cxOf CX0 P w K mg base N x (defScope st) f cdv A outer s H E).nox Γ (defBody st) (dat xs ++ pads N ps.length) ⟨fun _ => P1 (.d .none) (dat xs), fun r _ => noAl r = true ∧ P1 r (dat xs), fun _ => False, fun _ => False⟩) :
    ∀ f fd, Fun K x x st f fd → FnOk P w K mg base CX0 (k + 1) f fd ps (GC K co) :=
  ok_of S (len_gc fun as P1 h => (sh as P1 h).1) fun f cdv A outer s H vs Q E hr h => core_p (X := (cxOf CX0 P w K mg base N x (defScope st) f cdv A outer s H E).nox) hpn sh (fun Γ xs P1 hc => body f cdv A outer s H E Γ xs P1 hr hc) h
/-- the body of a def whose first argument is an own object, which it may change -/
theorem core_a {X : Cx} {ss : List Stmt} {n : Nat} {vs : List V} {H : Hp} {Q : VK} {E : XK} (hpn : n ≤ X.N.length) (sh : ∀ as P1, co as P1 → as.length = n ∧ ∃ s xs, as = s :: dat xs ∧ s.tag = 2)
    (body : ∀ (Γ : Gm) (s0 : Sl) (xs : List PyData) (P1 : Sl → List Sl → Prop), co (s0 :: dat xs) P1 → DSs X Γ ss ((s0 :: dat xs) ++ pads X.N n) ⟨fun ρ' => ∃ s1, ρ'[0]? = some s1 ∧ s1.tag = 2 ∧ P1 (.d .none) (s1 :: dat xs), fun r ρ' => noAl r = true ∧ ∃ s1, ρ'[0]? = some s1 ∧ s1.tag = 2 ∧ P1 r (s1 :: dat xs), fun _ => False, fun _ => False⟩)
    (h : GC X.K co vs H Q E) : WSs X ss { nx := fun _ H' => Q .non H', rt := Q } (L2.start X.N vs) H := by
  obtain ⟨B, as, st0, hc⟩ := h
  obtain ⟨hl, s0, xs, rfl, t0⟩ := sh _ _ hc
  have hb := body ⟨B, H, Ow (s0 :: dat xs) (vs.map some), B⟩ s0 xs _ hc
  have o0 : s0.own = true := by rw [own_tag, t0]; rfl
  obtain ⟨p0, u0, e0, f1, f2, f3⟩ := st0.at_ (i := 0) rfl o0
  have only : ∀ a, Ow (s0 :: dat xs) (vs.map some) a → a = p0 := fun a ⟨i, s, h1, h2, h3⟩ => by
    cases i with
    | zero =>
      rw [e0] at h3
      cases h3
      rfl
    | succ i =>
      rw [dat_own (show (dat xs)[i]? = some s from h1)] at h2
      cases h2
  have fin : ∀ {r s1 : Sl} {ρ' : Rho} {σ' : L2.St} {v : V} {B' H' : Hp}, noAl r = true → ρ'[0]? = some s1 → s1.tag = 2 → (∀ v B' H', Go X.K (s0 :: dat xs) (vs.map some) B H (s1 :: dat xs) B' H' → Rr X.K (vs.map some) H B' H' v r → Q v H') → SO X.K ⟨B, H, Ow (s0 :: dat xs) (vs.map some), B⟩ ρ' σ' B' H' → Rr X.K σ' H B' H' v r → Q v H' := fun {r s1 ρ' σ' v B' H'} n h1 t1 q so rr => by
    have o1 : s1.own = true := by rw [own_tag, t1]; rfl
    obtain ⟨p, u, g1, g2, g3, g4⟩ := so.st.at_ h1 o1
    have hp : p = p0 := by
      rcases so.o 0 s1 p h1 o1 g1 with z | z
      · rw [t1] at z; exact nomatch z.1
      · exact only p z.2
    subst hp
    refine q _ _ _ ⟨so.g, by rw [List.map_cons, List.map_cons, t1, t0], ⟨so.g.k, st0.l, fun i s hi => ?_, fun i j s t a h1 h2 o1 o2 f1 f2 => ?_⟩, st0⟩ (rr.any n)
    · cases i with
      | zero =>
        have e : s1 = s := by simpa using hi
        subst e
        exact ⟨_, e0, Rs.put o1 ⟨p, u, rfl, g2, g3, g4⟩⟩
      | succ i =>
        have hi' : (dat xs)[i]? = some s := hi
        obtain ⟨o, k1, k2⟩ := st0.s (i + 1) s hi
        refine ⟨o, k1, ?_⟩
        rw [List.getElem?_map] at hi'
        cases q : xs[i]? with
        | none => rw [q] at hi'; cases hi'
        | some y =>
          rw [q] at hi'
          cases hi'
          obtain ⟨v, m1, m2⟩ := k2
          exact ⟨v, m1, Dp.mono so.g.b m2⟩
    · cases i with
      | zero =>
        cases j with
        | zero => rfl
        | succ j => rw [dat_own (show (dat xs)[j]? = some t from h2)] at o2; cases o2
      | succ i => rw [dat_own (show (dat xs)[i]? = some s from h1)] at o1; cases o1
  rw [← hl] at hb
  refine hb _ _ _ _ (so_start st0 (by rw [hl]; exact hpn) fun i s h1 h2 => ?_)
    ⟨fun ρ' σ' B' H' ⟨s1, h1, t1, q⟩ so => fin (r := .d .none) rfl h1 t1 q so .non, fun r ρ' σ' v B' H' ⟨n, s1, h1, t1, q⟩ so rr => fin n h1 t1 q so rr, fun _ _ _ _ q _ => q.elim, fun _ _ _ _ q _ => q.elim⟩
  cases i with
  | zero =>
    have e : s0 = s := by simpa using h1
    subst e
    exact t0
  | succ i => rw [dat_own (show (dat xs)[i]? = some s from h1)] at h2; cases h2
/-- a def whose first argument is an own object, which it may change -/
theorem ok_a (S : FnScope N ps (defScope st)) (hpn : ps.length ≤ N.length) (sh : ∀ as P1, co as P1 → as.length = ps.length ∧ ∃ s xs, as = s :: dat xs ∧ s.tag = 2)
    (body : ∀ (f : Addr) (cdv : Value) (A : Around) (outer : List Env) (s : Shared) (H : Hp) (E : XK) (Γ : Gm) (s0 : Sl) (xs : List PyData) (P1 : Sl → List Sl → Prop), Room k (A.deeper (PyProof.Rows.envOfC x (defScope st) s.heap.objs.size f cdv)) → co (s0 :: dat xs) P1 →
      DSs (cxOf CX0 P w K mg base N x (defScope st) f cdv A outer s H E).nox Γ (defBody st) ((s0 :: dat xs) ++ pads N ps.length) ⟨fun ρ' => ∃ s1, ρ'[0]? = some s1 ∧ s1.tag = 2 ∧ P1 (.d .none) (s1 :: dat xs), fun r ρ' => noAl r = true ∧ ∃ s1, ρ'[0]? = some s1 ∧ s1.tag = 2 ∧ P1 r (s1 :: dat xs), fun _ => False, fun _ => False⟩) :
    ∀ f fd, Fun K x x st f fd → FnOk P w K mg base CX0 (k + 1) f fd ps (GC K co) :=
  ok_of S (len_gc fun as P1 h => (sh as P1 h).1) fun f cdv A outer s H vs Q E hr h => core_a (X := (cxOf CX0 P w K mg base N x (defScope st) f cdv A outer s H E).nox) hpn sh (fun Γ s0 xs P1 hc => body f cdv A outer s H E Γ s0 xs P1 hr hc) h
end
section
variable {X : Cx} {Γ : Gm} {a b c e o tg iter : Expr} {es : List Expr} {ρ : Rho} {O : Out} {pos p2 p3 pt ap : Pos} {x y : Str} {P : Sl → Rho → Prop} {co : Con} {k : Nat} {ps ks : List Str}
/-- a call whose first argument is the own object of slot i -/
theorem d_callA (i : Nat) (cl : CalW X x (GC X.K co)) (mo : Mon co) (he : starEach (.Name y p3 :: es) X.env = (false, eval (.Name y p3) X.env) :: starEach es X.env := by rfl) (hpl : (backTo pos (starEach es X.env)).any (·.1) = false := by rfl)
    (hN : X.N[i]? = some y := by rfl) (hv : Vis X.env.scope y := by first | exact Or.inl rfl | exact Or.inr (Or.inl rfl) | exact Or.inr (Or.inr rfl)) (hd : (y == ("__debug__" : Str)) = false := by decide)
    (hcd : (y == ("__classdict__" : Str)) = false := by decide) {s00 : Sl} (h0 : ρ[i]? = some s00 := by rfl) (ho : s00.own = true := by rfl)
    (h : DA X es ρ fun rs ρ1 => ∃ xs s0, allD rs = some xs ∧ ρ1[i]? = some s0 ∧ s0.own = true ∧ co (s0 :: dat xs) fun r l => noAl r = true ∧ ∃ s1, l.head? = some s1 ∧ P r (ρ1.set i s1)) : DE X (.Call (.Name x p2) (.Name y p3 :: es) [] pos) ρ P := by
  intro σ B H Q st kk
  obtain ⟨p0, u0, e0, _⟩ := st.at_ h0 ho
  refine cl _ _ _ _ _ _ _ he hpl (Lw.a_cons he ?_)
  refine ⟨_, pe_var hN hv hd hcd, _, e0, ?_⟩
  refine h σ B H _ st fun rs ρ1 vs B1 H1 ⟨xs, s0, ex, hs0, os0, hc⟩ go ra => ?_
  have d := rrA_all ra ex
  obtain ⟨p, u, e1, f1, f2, f3⟩ := go.st.at_ hs0 os0
  rw [e0] at e1
  cases e1
  have st1 : St X.K (s0 :: dat xs) ((V.ref p0 :: vs).map some) B1 H1 := by
    have sd := st_dat (K := X.K) go.st.k d
    refine ⟨go.st.k, by show _ + 1 = _ + 1; rw [sd.l], fun j s hj => ?_, fun i j s t a h1 h2 o1 o2 g1 g2 => ?_⟩
    · cases j with
      | zero =>
        have e : s0 = s := by simpa using hj
        subst e
        exact ⟨_, rfl, Rs.put os0 ⟨p0, u, rfl, f1, f2, f3⟩⟩
      | succ j => exact sd.s j s hj
    · cases i with
      | zero =>
        cases j with
        | zero => rfl
        | succ j => rw [dat_own (show (dat xs)[j]? = some t from h2)] at o2; cases o2
      | succ i => rw [dat_own (show (dat xs)[i]? = some s from h1)] at o1; cases o1
  refine ⟨B1, s0 :: dat xs, st1, mo _ _ _ (fun r l ⟨n, s1, hl, q⟩ v B' H' g2 rr => ?_) hc⟩
  have only : ∀ a, Ow (s0 :: dat xs) ((V.ref p0 :: vs).map some) a → a = p0 := fun a ⟨i, s, h1, h2, h3⟩ => by
    cases i with
    | zero => cases h3; rfl
    | succ i => rw [dat_own (show (dat xs)[i]? = some s from h1)] at h2; cases h2
  cases l with
  | nil => cases hl
  | cons s1' l =>
    cases hl
    have t1 : s1.tag = s0.tag := by
      have := g2.w
      rw [List.map_cons, List.map_cons] at this
      exact (List.cons.inj this).1
    have o1 : s1.own = true := tag_own os0 t1
    obtain ⟨q1, u1, k1, k2, k3, k4⟩ := g2.st.at_ (i := 0) rfl o1
    cases k1
    have ow0 : Ow ρ1 σ p0 := ⟨i, s0, hs0, os0, e0⟩
    have gr : Gr (Ow ρ1 σ) B1 H1 B' H' := g2.g.weak fun a z => by rw [only a z]; exact ow0
    have li : i < ρ1.length := (List.getElem?_eq_some_iff.mp hs0).1
    have key : ∀ (j : Nat) (q : Sl), (ρ1.set i s1)[j]? = some q → (j = i ∧ q = s1) ∨ (j ≠ i ∧ ρ1[j]? = some q) := fun j q h => by
      by_cases c : i = j
      · subst c
        rw [List.getElem?_set_self li] at h
        exact .inl ⟨rfl, (Option.some.inj h).symm⟩
      · rw [List.getElem?_set_ne c] at h
        exact .inr ⟨fun z => c z.symm, h⟩
    have gg : Go X.K ρ1 σ B1 H1 (ρ1.set i s1) B' H' := by
      refine ⟨gr, ?_, ⟨g2.st.k, by rw [List.length_set]; exact go.st.l, fun j s hj => ?_, fun j k' s t a h1 h2 oo1 oo2 g1 g3 => ?_⟩, go.st⟩
      · rw [List.map_set, t1]
        apply List.ext_getElem?
        intro j
        by_cases c : i = j
        · subst c
          rw [List.getElem?_set_self (by rw [List.length_map]; exact li), List.getElem?_map, hs0]
          rfl
        · rw [List.getElem?_set_ne c]
      · rcases key j s hj with ⟨rfl, rfl⟩ | ⟨n, hj'⟩
        · exact ⟨_, e0, Rs.put o1 ⟨p0, u1, rfl, k2, k3, k4⟩⟩
        · obtain ⟨o, m1, rs⟩ := go.st.s j s hj'
          refine ⟨o, m1, ?_⟩
          by_cases c : s.own = true
          · obtain ⟨a, w, n1, n2, n3, n4⟩ := Rs.get c rs
            have na : a ≠ p0 := fun z => n (go.st.u j i s s0 p0 hj' hs0 c os0 (by rw [m1, n1, z]) e0)
            exact Rs.put c ⟨a, w, n1, g2.g.h a _ (fun z => na (only a z)) n2, g2.g.f a n3 (by rw [n2]; exact fun z => nomatch z), Sh.mono g2.g.b n4⟩
          · cases s with
            | no => trivial
            | d x => obtain ⟨v, e1, e2⟩ := rs; exact ⟨v, e1, Dp.mono g2.g.b e2⟩
            | v w => exact rs
            | al i => exact rs
            | ol _ => exact absurd rfl c
            | od _ => exact absurd rfl c
            | ob _ => exact absurd rfl c
            | lo _ => exact absurd rfl c
            | pl _ => exact absurd rfl c
            | kn F => obtain ⟨v, e1, e2⟩ := rs; exact ⟨v, e1, F.m _ _ _ g2.g.b e2⟩
            | nt _ => exact rs
      · have back : ∀ (j : Nat) (q : Sl), (ρ1.set i s1)[j]? = some q → q.own = true → ∃ q', ρ1[j]? = some q' ∧ q'.own = true := fun j q h oq => by
          rcases key j q h with ⟨rfl, rfl⟩ | ⟨_, h'⟩
          · exact ⟨s0, hs0, os0⟩
          · exact ⟨q, h', oq⟩
        obtain ⟨s', h1', o1'⟩ := back j s h1 oo1
        obtain ⟨t', h2', o2'⟩ := back k' t h2 oo2
        exact go.st.u j k' s' t' a h1' h2' o1' o2' g1 g3
    exact kk _ _ _ _ _ q (go.trans gg) (Rr.early go (rr.any n))
end
end Dw
/-! Calls of which it is known that no repr is under way. -/
namespace Dw
open PySem PySem.Spec PyProof.Rows L2 Evl Lw

/-- no repr is under way -/
abbrev Quiet (A : Around) : Prop := A.guards = some []
structure FnOkG (P : Program) (w : World) (K : PySem.W.Frag) (mg : Str → Option Value) (base : Heap) (k : Nat) (f : Addr) (fd : FuncData) (ps : List Str) (sp : Sp) : Prop where
  len : ∀ vs H Q E, sp vs H Q E → vs.length = ps.length
  run : ∀ (A : Around) (out : List Env) (s : Shared) (H : Hp) (args : Args) (us : List Value) (vs : List V) (Q : VK) (E : XK), Quiet A → Room k A → Env0 P w K mg base A out s H →
    BindsTo s fd args (ps.zip us) → Vals vs us → sp vs H Q E → codeAny (model P w) A (.call (.ref f) args) (CR CX0 out P w H s Q E) s
theorem FnOkG.of {P : Program} {w : World} {K : PySem.W.Frag} {mg : Str → Option Value} {base : Heap} {k : Nat} {f : Addr} {fd : FuncData} {ps : List Str} {sp : Sp} (F : FnOk P w K mg base CX0 k f fd ps sp) : FnOkG P w K mg base k f fd ps sp :=
  ⟨F.len, fun A out s H args us vs Q E _ => F.run A out s H args us vs Q E⟩
section
variable {P : Program} {w : World} {K : PySem.W.Frag} {mg : Str → Option Value} {base : Heap} {x : Str} {st : Stmt} {N ps ks : List Str} {k : Nat} {sp : Sp}
/-- THE RULE for such a def -/
theorem okG_of (S : FnScope N ps (defScope st)) (len : ∀ vs H Q E, sp vs H Q E → vs.length = ps.length)
    (body : ∀ (f : Addr) (cdv : Value) (A : Around) (out : List Env) (s : Shared) (H : Hp) (vs : List V) (Q : VK) (E : XK), Quiet A → Room k (A.deeper (envOfC x (defScope st) s.heap.objs.size f cdv)) → sp vs H Q E →
      WSs (cxOf CX0 P w K mg base N x (defScope st) f cdv A out s H E).nox (defBody st) { nx := fun _ H' => Q .non H', rt := Q } (L2.start N vs) H) : ∀ f fd, Fun K x x st f fd → FnOkG P w K mg base (k + 1) f fd ps sp := by
  intro f fd F
  obtain ⟨oc, od, kV, doc, pm, an, cdv, ct, osl, rfl, lk, hcd⟩ := F.ex
  refine ⟨len, fun A out s H args us vs Q E hq hr e0 hb r hsp => ?_⟩
  · have n1 := len _ _ _ _ hsp
    have kx : K.In s.heap := e0.mod.kin.keeps fun b o e => (e0.bs b o e).1
    refine codeAny_call_function hr.depth (kx _ _ lk) rfl S.co S.gen rfl (PySem.W.codeRec_of kx hcd) (hb _ _ _ _ ?_)
    refine wpAny_newFunctionEnv_cells S.kind (fun ⟨nm, v⟩ hy => ?_) fun env he s1 ic => ?_
    · exact (S.par nm (List.of_mem_zip hy).1).elim .inl fun q => .inr ⟨q, PySem.W.cellsFrom_some _ _ _ (.inl q)⟩
    subst he
    refine ⟨(e0.mod.nolimit.keeps fun b o e => (e0.bs b o e).1).keeps ic.toInCall.keep, codeAny_func ?_⟩
    have I : Inv (cxOf CX0 P w K mg base N x (defScope st) f cdv A out s H E) [] (L2.start N vs) H s1 := inv_start S hr.hd e0 n1 r ic
    refine wpAny_mono ((WSs.pss (X := (cxOf CX0 P w K mg base N x (defScope st) f cdv A out s H E).nox)).nox.run [] s1 _ H _ I (body f cdv A out s H vs Q E hq (hr.deeper _) hsp)) (fun fl s' hs => ?_) fun e s' hs => hs
    cases fl with
    | ret u => obtain ⟨v, σ', H', J, rv, q⟩ := hs; exact ⟨v, H', J.os, J.bare, J.base, J.hok, rv, q⟩
    | next => obtain ⟨σ', H', J, q⟩ := hs; exact ⟨.non, H', J.os, J.bare, J.base, J.hok, rfl, q⟩
    | brk => obtain ⟨_, _, _, q⟩ := hs; exact q.elim
    | cont => obtain ⟨_, _, _, q⟩ := hs; exact q.elim
end
section
variable {P : Program} {w : World} {K : PySem.W.Frag} {mg : Str → Option Value} {base : Heap} {x : Str} {st : Stmt} {N ps ks : List Str} {k : Nat} {co : Con}
theorem ok_pG (S : FnScope N ps (defScope st)) (hpn : ps.length ≤ N.length) (sh : ∀ as P1, co as P1 → as.length = ps.length ∧ ∃ xs, as = dat xs)
    (body : ∀ (f : Addr) (cdv : Value) (A : Around) (out : List Env) (s : Shared) (H : Hp) (E : XK) (Γ : Gm) (xs : List PyData) (P1 : Sl → List Sl → Prop), Quiet A → Room k (A.deeper (envOfC x (defScope st) s.heap.objs.size f cdv)) → co (dat xs) P1 →
      DSs (cxOf CX0 P w K mg base N x (defScope st) f cdv A out s H E).nox Γ (defBody st) (dat xs ++ pads N ps.length) ⟨fun _ => P1 (.d .none) (dat xs), fun r _ => noAl r = true ∧ P1 r (dat xs), fun _ => False, fun _ => False⟩) :
    ∀ f fd, Fun K x x st f fd → FnOkG P w K mg base (k + 1) f fd ps (GC K co) :=
  okG_of S (len_gc fun as P1 h => (sh as P1 h).1) fun f cdv A out s H vs Q E hq hr h => core_p (X := (cxOf CX0 P w K mg base N x (defScope st) f cdv A out s H E).nox) hpn sh (fun Γ xs P1 hc => body f cdv A out s H E Γ xs P1 hq hr hc) h
theorem ok_aG (S : FnScope N ps (defScope st)) (hpn : ps.length ≤ N.length) (sh : ∀ as P1, co as P1 → as.length = ps.length ∧ ∃ s xs, as = s :: dat xs ∧ s.tag = 2)
    (body : ∀ (f : Addr) (cdv : Value) (A : Around) (out : List Env) (s : Shared) (H : Hp) (E : XK) (Γ : Gm) (s0 : Sl) (xs : List PyData) (P1 : Sl → List Sl → Prop), Quiet A → Room k (A.deeper (envOfC x (defScope st) s.heap.objs.size f cdv)) → co (s0 :: dat xs) P1 →
      DSs (cxOf CX0 P w K mg base N x (defScope st) f cdv A out s H E).nox Γ (defBody st) ((s0 :: dat xs) ++ pads N ps.length) ⟨fun ρ' => ∃ s1, ρ'[0]? = some s1 ∧ s1.tag = 2 ∧ P1 (.d .none) (s1 :: dat xs), fun r ρ' => noAl r = true ∧ ∃ s1, ρ'[0]? = some s1 ∧ s1.tag = 2 ∧ P1 r (s1 :: dat xs), fun _ => False, fun _ => False⟩) :
    ∀ f fd, Fun K x x st f fd → FnOkG P w K mg base (k + 1) f fd ps (GC K co) :=
  okG_of S (len_gc fun as P1 h => (sh as P1 h).1) fun f cdv A out s H vs Q E hq hr h => core_a (X := (cxOf CX0 P w K mg base N x (defScope st) f cdv A out s H E).nox) hpn sh (fun Γ s0 xs P1 hc => body f cdv A out s H E Γ s0 xs P1 hq hr hc) h
/-- a def of the module that keeps a promise where no repr is under way -/
structure CalG (P : Program) (w : World) (K : PySem.W.Frag) (mg : Str → Option Value) (base : Heap) (x : Str) (k : Nat) (ps : List Str) (sp : Sp) : Prop where
  ex : ∃ f fd, FnOkG P w K mg base k f fd ps sp ∧ mg x = some (.ref f) ∧ PySem.W.keepIn K (.ref f) = true ∧ Binds K fd ps []
theorem calG_fn {sp : Sp} (d : Fn K mg x st) (ok : ∀ f fd, Fun K x x st f fd → FnOkG P w K mg base k f fd ps sp)
    (hb : ∀ (kV doc pm : Value) (an : Option Addr) (cdv ct : Value) (us : List Value), us.length = ps.length → bindArgs (PySem.W.fnOf x x (defArgs st) (defBody st) (defScope st) .none kV doc pm an cdv ct) ⟨us, []⟩ = pure (ps.zip us)) : CalG P w K mg base x k ps sp := by
  obtain ⟨f, fd, F, hm⟩ := d
  exact ⟨f, fd, ok f fd F, hm, F.kp, F.binds hb⟩
end
section
variable {X : Cx} {x : Str} {k : Nat} {ps : List Str} {sp : Sp}
theorem calWG (cl : CalG X.prog X.w X.K X.mg X.base x k ps sp) (hq : Quiet X.A) (hr : Room k X.A) (hg : Gl X x := by rfl) (hdb : (x == ("__debug__" : Str)) = false := by decide) : CalW X x sp := by
  obtain ⟨f, fd, F, hm, hk, hb⟩ := cl.ex
  intro e es p2 pos σ H Q he hpl h
  refine ⟨fun σ H Q => WA X (e :: es) σ H fun vs H1 => sp vs H1 Q E0, ⟨fun pins s σ H Q I h => ?_⟩, h⟩
  refine wpAny_Call_Name_kw (ld_glob I hg hm ?_ hdb)
  refine PySem.W.callWith_K (h₀ := X.base) I.ok.mod.kin hk (thn (WA.pa.run pos pins s σ H _ I h) fun us s1 ⟨vs, H1, I1, r, q⟩ => ⟨I1.kIn, ?_⟩) he hpl
  have n1 : us.length = ps.length := by rw [← r.length]; exact F.len _ _ _ _ q
  have hb1 := hb s1 us I1.kIn (by simpa using n1)
  simp only [List.append_nil] at hb1
  refine wpAny_call (codeAny_mono (F.run X.A X.stack s1 H1 ⟨us, []⟩ us vs Q E0 hq hr I1.env0 hb1 r q) fun rr s' hz => ?_)
  cases rr with
  | error er => exact (pass0 (X := X) pins σ H1 s1 er s' I1 hz)
  | ok fl =>
    cases fl with
    | ret u => exact I1.after hz
    | next => exact hz.elim
    | brk => exact hz.elim
    | cont => exact hz.elim
/-- repr of data -/
theorem call_reprD (hq : Quiet X.A) (hu : X.A.units + 70 < cLine) : CallR X (.builtin "repr") (fun vs H Q => ∃ v d, vs = [v] ∧ Dp X.K H v d ∧ d.depth ≤ 64 ∧ d.showable = true ∧ d.hasDict = false ∧ d.shown.length ≤ sizeLine ∧ Q (.str d.shown) H) := by
  intro pins s σ H vs us Q I r h
  obtain ⟨v, d, rfl, hd, hdp, hs, hn, hz, q⟩ := h
  obtain ⟨u, rfl, ru⟩ := vals1 r
  obtain ⟨as, rd⟩ := Dp.reads I d _ u hd ru
  have far : ∀ p, v = .ref p → wpAny (model X.prog X.w) X.A (call (.builtin "repr") [u]) (EP X pins σ Q) X.xe s := fun p e => by
    subst e
    cases (show u = Value.ref p from ru)
    exact repr_of_reads' rd hs (fun z => by rw [hn] at z; cases z) hq (by omega) (fun b o e => e) (fun h' t tk hk => ⟨.str _, H, I.kept hk, ⟨_, rfl⟩, q⟩) hz
  cases hd with
  | lst _ _ => exact far _ rfl
  | tup _ _ => exact far _ rfl
  | non =>
    cases (show u = Value.none from ru)
    exact PySem.P.repr_of_none ⟨.str _, H, I.tok _, ⟨_, rfl⟩, q⟩
  | bl b =>
    cases (show u = Value.bool b from ru)
    exact PySem.P.repr_of_bool ⟨.str _, H, I.tok _, ⟨_, rfl⟩, by cases b <;> exact q⟩
  | int i =>
    obtain ⟨t, rfl⟩ := (show ∃ t, u = Value.int i t from ru)
    exact PySem.P.repr_of_int (by simpa [PyData.showable] using hs) ⟨.str _, H, I.tok _, ⟨_, rfl⟩, q⟩
  | str z =>
    obtain ⟨t, rfl⟩ := (show ∃ t, u = Value.str z t from ru)
    exact PySem.P.repr_of_str ⟨.str _, H, I.tok _, ⟨_, rfl⟩, q⟩ hz
def okR (d : PyData) : Prop := d.depth ≤ 64 ∧ d.showable = true ∧ d.hasDict = false ∧ d.shown.length ≤ sizeLine
theorem bnm_repr : bootBuiltins "repr" = some (.builtin "repr") := by decide +kernel
theorem d_repr {ρ : Rho} {P : Sl → Rho → Prop} {e : Expr} {p2 pos : Pos} (hq : Quiet X.A) (hu : X.A.units + 70 < cLine) (hm : X.mg "repr" = none) (hg : Gl X "repr" := by rfl) (he : starEach (e :: []) X.env = (false, eval e X.env) :: starEach [] X.env := by rfl)
    (h : DE X e ρ fun r ρ1 => ∃ x, fz r = some x ∧ okR x ∧ P (.d (.str x.shown)) ρ1) : DE X (.Call (.Name "repr" p2) [e] [] pos) ρ P :=
  fun σ B H Q st k => e_blt (call_reprD hq hu) hm bnm_repr (Lw.a_cons he (h σ B H _ st fun r ρ1 v B1 H1 ⟨x, ex, ⟨h1, h2, h3, h4⟩, q⟩ go rr => by
    obtain ⟨B2, go2, _, d⟩ := Rr.fz go rr ex
    exact Lw.a_nil ⟨v, x, rfl, Dp.mono go2.st.k d, h1, h2, h3, h4, k _ _ _ B2 H1 q go2 (.str _)⟩)) hg (by decide) (by decide) he (by rfl)
end
/-! ### the head, where no repr is under way -/
section
variable {P : Program} {w : World} {K : PySem.W.Frag} {mg mb : Str → Option Value} {k : Nat} {fa a : Addr} {fd : FuncData} {x : Str} {sp : Sp} {sh : Shared} {us : List Value} {ns : List Int}
theorem head_at (kx : K.In sh.heap) (nm : sh.heap.Ns mainGlobals mg) (nb : sh.heap.Ns builtinsNs mb) (boot : ∀ y : Str, y ≠ "__name__" → mb y = bootBuiltins y) (free : sh.heap.NoLimit) (gen : sh.gens = #[])
    (ea : sh.heap.get? a = some { cls := .type "list", data := .seq us.toArray }) (ii : IntsAre us ns) (room : Room k callerA)
    (F : ∀ b0 : Heap, K.In b0 → b0.Ns mainGlobals mg → FnOkG P w K mg b0 k fa fd [x] sp) (bind : ∀ (s : Shared) (u : Value), BindsTo s fd ⟨[u], []⟩ [(x, u)])
    {H : Hp} (only : Only H) (hsp : sp [.ref a] H (fun v _ => v = .bl true) fun _ _ _ => False) (hok : HOk P w H sh.heap) (hA : ∀ b, H b ≠ none → b = a) (hK : H a ≠ none → K.lookup a = none) :
    codeAny (model P w) callerA (.call (.ref fa) ⟨[.ref a], []⟩) (fun r s' => r = .ok (.ret (.bool true)) ∧ OldK sh.heap s'.heap ∧ s'.os = sh.os ∧ AllBare s'.gens) sh := by
  -- whatever is no list of the script's stands in the part that is known to stay
  have away : ∀ {b : Addr} {o : Obj}, sh.heap.get? b = some o → (b = a → H b = none) → (hidT sh.heap H).get? b = some o := fun {b o} e z => hidT_get e (by
    by_cases c : b = a
    · exact z c
    · cases q : H b with
      | none => rfl
      | some u => exact absurd (hA b (by rw [q]; exact fun y => nomatch y)) c)
  have nsH : ∀ {b : Addr} {m : Str → Option Value}, sh.heap.Ns b m → (hidT sh.heap H).Ns b m := fun {b m} ⟨o, es, ep, e, d, r⟩ => ⟨o, es, ep, away e (fun c => by
    subst c
    rw [ea] at e
    cases e
    cases (show Data.seq us.toArray _ = Data.dict es ep from d)), d, r⟩
  have kH : K.In (hidT sh.heap H) := fun b o e => away (kx b o e) fun c => by
    subst c
    cases q : H b with
    | none => rfl
    | some u => rw [hK (by rw [q]; exact fun y => nomatch y)] at e; cases e
  have env : Env0 P w K mg (hidT sh.heap H) callerA [] sh H := ⟨rfl, ⟨kH, nsH nm, ⟨mb, nsH nb, boot⟩, free.imp fun mc z => ⟨nsH z.1, z.2⟩⟩, fun _ _ e => of_hidT e, Nat.le_of_eq (hidT_size _ _), trivial, fun _ z => (nomatch z), hok, .of_eq gen⟩
  refine codeAny_mono ((F _ kH (nsH nm)).run callerA [] sh H ⟨[.ref a], []⟩ [.ref a] [.ref a] _ _ rfl room env (bind sh _) (.cons rfl .nil) hsp) fun r s' h => ?_
  cases r with
  | error er => exact h.elim
  | ok fl =>
    cases fl with
    | next => exact h.elim
    | brk => exact h.elim
    | cont => exact h.elim
    | ret u =>
      obtain ⟨v, H', e1, e2, un, ok', ru, rfl⟩ := h
      cases (show u = Value.bool true from ru)
      refine ⟨rfl, OldK.of_keep fun b o e => ?_, e1, e2⟩
      cases q : H b with
      | none => exact un.keep b o e q (fun z => nomatch z) (fun z => nomatch z)
      | some u =>
        obtain ⟨ob, xs, z⟩ := (only b).resolve_left (by rw [q]; exact fun y => nomatch y)
        have o1 := (hok b _ z).1
        rw [e] at o1
        cases o1
        exact (ok' b _ (un.frzs b _ _ z)).1
theorem head_call (kx : K.In sh.heap) (nm : sh.heap.Ns mainGlobals mg) (nb : sh.heap.Ns builtinsNs mb) (boot : ∀ y : Str, y ≠ "__name__" → mb y = bootBuiltins y) (free : sh.heap.NoLimit) (gen : sh.gens = #[])
    (ea : sh.heap.get? a = some { cls := .type "list", data := .seq us.toArray }) (ii : IntsAre us ns) (short : ns.length ≤ sizeLine) (room : Room k callerA)
    (F : ∀ b0 : Heap, K.In b0 → b0.Ns mainGlobals mg → FnOkG P w K mg b0 k fa fd [x] sp) (bind : ∀ (s : Shared) (u : Value), BindsTo s fd ⟨[u], []⟩ [(x, u)])
    (hsp : ∀ H : Hp, Only H → SqL K H a (ns.map V.int) → sp [.ref a] H (fun v _ => v = .bl true) fun _ _ _ => False) :
    codeAny (model P w) callerA (.call (.ref fa) ⟨[.ref a], []⟩) (fun r s' => r = .ok (.ret (.bool true)) ∧ OldK sh.heap s'.heap ∧ s'.os = sh.os ∧ AllBare s'.gens) sh := by
  have rv := vals_ints ii
  have n1 := ii.length
  cases hk : K.lookup a with
  | some o =>
    have e := kx a o hk
    rw [ea] at e
    cases e
    refine head_at kx nm nb boot free gen ea ii room F bind (H := fun _ => none) (fun _ => .inl rfl) (hsp _ (fun _ => .inl rfl) (.inr ⟨_, us.toArray, _, hk, rfl, rfl, rfl, ?_, by simpa using rv⟩)) (fun b u z => nomatch z) (fun b z => absurd rfl z) fun z => absurd rfl z
    rw [List.size_toArray, n1]
    exact short
  | none =>
    obtain ⟨H, hH⟩ : ∃ H : Hp, H = upd (fun _ => none) a (.frz { cls := .type "list", data := .seq us.toArray } (.lst (ns.map V.int))) := ⟨_, rfl⟩
    have at_ : H a = some (.frz { cls := .type "list", data := .seq us.toArray } (.lst (ns.map V.int))) := by rw [hH]; exact upd_same
    have off : ∀ b, b ≠ a → H b = none := fun b c => by rw [hH]; exact upd_ne c
    have only : Only H := fun b => by
      by_cases c : b = a
      · subst c; exact .inr ⟨_, _, at_⟩
      · exact .inl (off b c)
    refine head_at kx nm nb boot free gen ea ii room F bind only (hsp H only (.inl (.inr ⟨_, at_⟩))) (fun b u z => ?_) (fun b z => ?_) fun _ => hk
    · by_cases c : b = a
      · subst c
        rw [at_] at z
        cases z
        exact ⟨ea, by rw [List.length_map]; exact short, us, _, rv, ea⟩
      · rw [off b c] at z; cases z
    · by_cases c : b = a
      · exact c
      · exact absurd (off b c) z
end
theorem walkG {l : PySem.W.OpenLaw} {n k : Nat} {q : Program} {loose : List Str} {XP : (Str → Option Value) → Heap → Prop} {YP : World → Heap → Prop} {d : DefRec} {K : Params → PySem.W.Frag} {sp : World → Sp} {x : Str}
    (hn : l.most = some n) (hn2 : n ≤ sizeLine) (hdf : d.params.defaults = []) (room : Room k callerA) (hY : ∀ (w : World) (h : Heap), YP w h → (K w.params).In h)
    (F : ∀ (w : World) (mg : Str → Option Value) (fa : Addr) (h : Heap), (K w.params).In h → h.Ns mainGlobals mg → mg d.name = some (.ref fa) →
      ∃ fd : FuncData, (∀ (s : Shared) (u : Value), BindsTo s fd ⟨[u], []⟩ [(x, u)]) ∧ ∀ b0 : Heap, (K w.params).In b0 → b0.Ns mainGlobals mg → FnOkG l.prog w (K w.params) mg b0 k fa fd [x] (sp w))
    (hsp : ∀ (w : World) (H : Hp) (a : Addr) (ns : List Int), ns.length ≤ n → (∀ z ∈ ns, Builtin.Int.intBits z ≤ 1048576) → Only H → SqL (K w.params) H a (ns.map V.int) → sp w [.ref a] H (fun v _ => v = .bl true) fun _ _ _ => False) :
    PySem.W.WalkO q loose XP YP l.row.toRowW d [] (fun f vs => PySem.call f vs) := by
  refine Att.attach_callB hn hdf fun w s0 s1 mg mb fa o pm cd doc a us ns G Y _ _ _ at_ obj ii short bits gen => ?_
  obtain ⟨fd, bind, FF⟩ := F w mg fa _ (hY w _ Y) G.T.g at_
  exact head_call (hY w _ Y) G.T.g G.T.b G.T.builtins G.T.nolimit gen obj ii (Nat.le_trans short hn2) room FF bind fun H only sq => hsp w H a ns short bits only sq
end Dw
namespace Dw
open PySem PySem.Spec L2 Evl Lw

/-! ### promises of defs: data handed back; a new list; with an own object ahead -/
abbrev PCon (α : Type) := List PyData → (α → Prop) → Prop
abbrev ACon (α : Type) := Sl → List PyData → (α → Sl → Prop) → Prop
def pcD (c : PCon PyData) : Con := fun as P => ∃ xs, as = dat xs ∧ c xs fun y => P (.d y) (dat xs)
def pcL (c : PCon (List PyData)) : Con := fun as P => ∃ xs, as = dat xs ∧ c xs fun ys => P (.ol ys) (dat xs)
def pcA (c : ACon PyData) : Con := fun as P => ∃ s xs, as = s :: dat xs ∧ s.tag = 2 ∧ c s xs fun y s1 => P (.d y) (s1 :: dat xs)
def pcAL (c : ACon (List PyData)) : Con := fun as P => ∃ s xs, as = s :: dat xs ∧ s.tag = 2 ∧ c s xs fun y s1 => P (.ol y) (s1 :: dat xs)
def MonP {α : Type} (c : PCon α) : Prop := ∀ xs (P1 P2 : α → Prop), (∀ r, P1 r → P2 r) → c xs P1 → c xs P2
def MonA {α : Type} (c : ACon α) : Prop := ∀ s xs (P1 P2 : α → Sl → Prop), (∀ r t, P1 r t → P2 r t) → c s xs P1 → c s xs P2
theorem monD {c : PCon PyData} (m : MonP c) : Mon (pcD c) := fun as P1 P2 h ⟨xs, e, q⟩ => ⟨xs, e, m _ _ _ (fun r => h _ _) q⟩
theorem monL {c : PCon (List PyData)} (m : MonP c) : Mon (pcL c) := fun as P1 P2 h ⟨xs, e, q⟩ => ⟨xs, e, m _ _ _ (fun r => h _ _) q⟩
theorem monA {c : ACon PyData} (m : MonA c) : Mon (pcA c) := fun as P1 P2 h ⟨s, xs, e, t, q⟩ => ⟨s, xs, e, t, m _ _ _ _ (fun r s => h _ _) q⟩
theorem monAL {c : ACon (List PyData)} (m : MonA c) : Mon (pcAL c) := fun as P1 P2 h ⟨s, xs, e, t, q⟩ => ⟨s, xs, e, t, m _ _ _ _ (fun r s => h _ _) q⟩
theorem dat_inj {xs ys : List PyData} (h : dat xs = dat ys) : xs = ys := by
  have := congrArg (List.map fun s => match s with | .d x => x | _ => PyData.none) h
  simpa [List.map_map, Function.comp_def] using this
section
variable {P : Program} {w : World} {K : PySem.W.Frag} {mg : Str → Option Value} {base : Heap} {x : Str} {st : Stmt} {N ps ks : List Str} {k : Nat}
/-- what a body hands back of data -/
abbrev outD (P1 : PyData → Prop) : Out := ⟨fun _ => P1 .none, fun r _ => ∃ y, fz r = some y ∧ P1 y, fun _ => False, fun _ => False⟩
abbrev outL (P1 : List PyData → Prop) : Out := ⟨fun _ => False, fun r _ => ∃ y, r = .ol y ∧ P1 y, fun _ => False, fun _ => False⟩
abbrev outA (P1 : PyData → Sl → Prop) : Out := ⟨fun ρ => ∃ s1, ρ[0]? = some s1 ∧ s1.tag = 2 ∧ P1 .none s1, fun r ρ => ∃ y s1, r = .d y ∧ ρ[0]? = some s1 ∧ s1.tag = 2 ∧ P1 y s1, fun _ => False, fun _ => False⟩
abbrev outAL (P1 : List PyData → Sl → Prop) : Out := ⟨fun _ => False, fun r ρ => ∃ y s1, r = .ol y ∧ ρ[0]? = some s1 ∧ s1.tag = 2 ∧ P1 y s1, fun _ => False, fun _ => False⟩
theorem DSs.imp {X : Cx} {Γ : Gm} {ss : List Stmt} {ρ : Rho} {O O' : Out} (h : DSs X Γ ss ρ O) (h1 : ∀ ρ, O.nx ρ → O'.nx ρ) (h2 : ∀ r ρ, O.rt r ρ → O'.rt r ρ) (h3 : ∀ ρ, O.bk ρ → O'.bk ρ) (h4 : ∀ ρ, O.ct ρ → O'.ct ρ) : DSs X Γ ss ρ O' :=
  fun σ B H D so eo => h σ B H D so ⟨fun ρ σ B H q => eo.nx ρ σ B H (h1 _ q), fun r ρ σ v B H q => eo.rt r ρ σ v B H (h2 _ _ q), fun ρ σ B H q => eo.bk ρ σ B H (h3 _ q), fun ρ σ B H q => eo.ct ρ σ B H (h4 _ q)⟩
/-- .. a list that was made, too -/
def pcF (c : PCon PyData) : Con := fun as P => ∃ xs, as = dat xs ∧ c xs fun y => ∀ r, fz r = some y → P r (dat xs)
def pcAF (c : ACon PyData) : Con := fun as P => ∃ s xs, as = s :: dat xs ∧ s.tag = 2 ∧ c s xs fun y s1 => ∀ r, fz r = some y → P r (s1 :: dat xs)
theorem fz_al {r : Sl} {y : PyData} (h : fz r = some y) : noAl r = true := by cases r <;> first | rfl | cases h
theorem gc_fz {c : PCon PyData} (m : MonP c) {vs : List V} {H : Hp} {Q : VK} {E : XK} : GC K (pcD c) vs H Q E → GC K (pcF c) vs H Q E := fun ⟨B, as, st0, xs, e, q⟩ => ⟨B, as, st0, xs, e, m _ _ _ (fun y hy r er v B' H' go rr => by
  obtain ⟨B2, go2, _, d⟩ := Rr.fz go rr er
  exact hy v B2 H' go2 d) q⟩
theorem gc_afz {c : ACon PyData} (m : MonA c) {vs : List V} {H : Hp} {Q : VK} {E : XK} : GC K (pcA c) vs H Q E → GC K (pcAF c) vs H Q E := fun ⟨B, as, st0, s, xs, e, t, q⟩ => ⟨B, as, st0, s, xs, e, t, m _ _ _ _ (fun y s1 hy r er v B' H' go rr => by
  obtain ⟨B2, go2, _, d⟩ := Rr.fz go rr er
  exact hy v B2 H' go2 d) q⟩
abbrev BodyD (P : Program) (w : World) (K : PySem.W.Frag) (mg : Str → Option Value) (base : Heap) (x : Str) (st : Stmt) (N : List Str) (k : Nat) (Z : Around → Prop) (R : Cx → Gm → Prop) : Prop :=
  ∀ (f : Addr) (cdv : Value) (A : Around) (outer : List Env) (s : Shared) (H : Hp) (E : XK) (Γ : Gm), Z A → Room k (A.deeper (PyProof.Rows.envOfC x (defScope st) s.heap.objs.size f cdv)) → R (cxOf CX0 P w K mg base N x (defScope st) f cdv A outer s H E).nox Γ
theorem ok_D {c : PCon PyData} (m : MonP c) (hn : ∀ xs P1, c xs P1 → xs.length = ps.length) (S : FnScope N ps (defScope st)) (hpn : ps.length ≤ N.length)
    (body : BodyD P w K mg base x st N k (fun _ => True) fun X Γ => ∀ xs P1, c xs P1 → DSs X Γ (defBody st) (dat xs ++ pads N ps.length) (outD P1)) : ∀ f fd, Fun K x x st f fd → FnOk P w K mg base CX0 (k + 1) f fd ps (GC K (pcD c)) := fun f fd F =>
  (ok_p (co := pcF c) S hpn (fun as P1 ⟨xs, e, q⟩ => ⟨by rw [e, List.length_map]; exact hn _ _ q, xs, e⟩) (fun f cdv A outer s H E Γ xs P1 hr ⟨ys, e, q⟩ => by
    cases dat_inj e
    exact (body f cdv A outer s H E Γ trivial hr xs _ q).imp (fun _ z => z _ rfl) (fun r _ ⟨y, ey, z⟩ => ⟨fz_al ey, z r ey⟩) (fun _ z => z) fun _ z => z) f fd F).imp fun vs H Q E => gc_fz m
theorem ok_L {c : PCon (List PyData)} (hn : ∀ xs P1, c xs P1 → xs.length = ps.length) (S : FnScope N ps (defScope st)) (hpn : ps.length ≤ N.length)
    (body : BodyD P w K mg base x st N k (fun _ => True) fun X Γ => ∀ xs P1, c xs P1 → DSs X Γ (defBody st) (dat xs ++ pads N ps.length) (outL P1)) : ∀ f fd, Fun K x x st f fd → FnOk P w K mg base CX0 (k + 1) f fd ps (GC K (pcL c)) :=
  ok_p (co := pcL c) S hpn (fun as P1 ⟨xs, e, q⟩ => ⟨by rw [e, List.length_map]; exact hn _ _ q, xs, e⟩) fun f cdv A outer s H E Γ xs P1 hr ⟨ys, e, q⟩ => by
    cases dat_inj e
    exact (body f cdv A outer s H E Γ trivial hr xs _ q).imp (fun _ z => z.elim) (fun r _ ⟨y, ey, z⟩ => by subst ey; exact ⟨rfl, z⟩) (fun _ z => z) fun _ z => z
theorem sdat_inj {s s' : Sl} {xs ys : List PyData} (h : s :: dat xs = s' :: dat ys) : s = s' ∧ xs = ys := ⟨(List.cons.inj h).1, dat_inj (List.cons.inj h).2⟩
theorem ok_A {c : ACon PyData} (m : MonA c) (hn : ∀ s xs P1, c s xs P1 → xs.length + 1 = ps.length) (S : FnScope N ps (defScope st)) (hpn : ps.length ≤ N.length)
    (body : BodyD P w K mg base x st N k (fun _ => True) fun X Γ => ∀ s xs P1, s.tag = 2 → c s xs P1 → DSs X Γ (defBody st) ((s :: dat xs) ++ pads N ps.length) ⟨fun _ => False, fun r ρ => ∃ y s1, fz r = some y ∧ ρ[0]? = some s1 ∧ s1.tag = 2 ∧ P1 y s1, fun _ => False, fun _ => False⟩) : ∀ f fd, Fun K x x st f fd → FnOk P w K mg base CX0 (k + 1) f fd ps (GC K (pcA c)) := fun f fd F =>
  (ok_a (co := pcAF c) S hpn (fun as P1 ⟨s, xs, e, t, q⟩ => ⟨by rw [e, List.length_cons, List.length_map]; exact hn _ _ _ q, s, xs, e, t⟩) (fun f cdv A outer sh H E Γ s0 xs P1 hr ⟨s, ys, e, t, q⟩ => by
    obtain ⟨rfl, rfl⟩ := sdat_inj e
    exact (body f cdv A outer sh H E Γ trivial hr s0 xs _ t q).imp (fun _ z => z.elim) (fun r _ ⟨y, s1, ey, h1, h2, z⟩ => ⟨fz_al ey, s1, h1, h2, z r ey⟩) (fun _ z => z) fun _ z => z) f fd F).imp fun vs H Q E => gc_afz m
theorem ok_AL {c : ACon (List PyData)} (hn : ∀ s xs P1, c s xs P1 → xs.length + 1 = ps.length) (S : FnScope N ps (defScope st)) (hpn : ps.length ≤ N.length)
    (body : BodyD P w K mg base x st N k (fun _ => True) fun X Γ => ∀ s xs P1, s.tag = 2 → c s xs P1 → DSs X Γ (defBody st) ((s :: dat xs) ++ pads N ps.length) (outAL P1)) : ∀ f fd, Fun K x x st f fd → FnOk P w K mg base CX0 (k + 1) f fd ps (GC K (pcAL c)) :=
  ok_a (co := pcAL c) S hpn (fun as P1 ⟨s, xs, e, t, q⟩ => ⟨by rw [e, List.length_cons, List.length_map]; exact hn _ _ _ q, s, xs, e, t⟩) fun f cdv A outer sh H E Γ s0 xs P1 hr ⟨s, ys, e, t, q⟩ => by
    obtain ⟨rfl, rfl⟩ := sdat_inj e
    exact (body f cdv A outer sh H E Γ trivial hr s0 xs _ t q).imp (fun _ z => z.elim) (fun r _ ⟨y, s1, ey, h1, h2, z⟩ => by subst ey; exact ⟨rfl, s1, h1, h2, z⟩) (fun _ z => z) fun _ z => z
/-! the same where no repr is under way -/
theorem FnOkG.imp {f : Addr} {fd : FuncData} {sp sp' : Sp} (F : FnOkG P w K mg base k f fd ps sp) (h : ∀ vs H Q E, sp' vs H Q E → sp vs H Q E) : FnOkG P w K mg base k f fd ps sp' :=
  ⟨fun vs H Q E q => F.len vs H Q E (h _ _ _ _ q), fun A out s H args us vs Q E hq hr he hb hv hs => F.run A out s H args us vs Q E hq hr he hb hv (h _ _ _ _ hs)⟩
theorem ok_DG {c : PCon PyData} (m : MonP c) (hn : ∀ xs P1, c xs P1 → xs.length = ps.length) (S : FnScope N ps (defScope st)) (hpn : ps.length ≤ N.length)
    (body : BodyD P w K mg base x st N k Quiet fun X Γ => ∀ xs P1, c xs P1 → DSs X Γ (defBody st) (dat xs ++ pads N ps.length) (outD P1)) : ∀ f fd, Fun K x x st f fd → FnOkG P w K mg base (k + 1) f fd ps (GC K (pcD c)) := fun f fd F =>
  (ok_pG (co := pcF c) S hpn (fun as P1 ⟨xs, e, q⟩ => ⟨by rw [e, List.length_map]; exact hn _ _ q, xs, e⟩) (fun f cdv A outer s H E Γ xs P1 hq hr ⟨ys, e, q⟩ => by
    cases dat_inj e
    exact (body f cdv A outer s H E Γ hq hr xs _ q).imp (fun _ z => z _ rfl) (fun r _ ⟨y, ey, z⟩ => ⟨fz_al ey, z r ey⟩) (fun _ z => z) fun _ z => z) f fd F).imp fun vs H Q E => gc_fz m
theorem ok_AG {c : ACon PyData} (m : MonA c) (hn : ∀ s xs P1, c s xs P1 → xs.length + 1 = ps.length) (S : FnScope N ps (defScope st)) (hpn : ps.length ≤ N.length)
    (body : BodyD P w K mg base x st N k Quiet fun X Γ => ∀ s xs P1, s.tag = 2 → c s xs P1 → DSs X Γ (defBody st) ((s :: dat xs) ++ pads N ps.length) ⟨fun _ => False, fun r ρ => ∃ y s1, fz r = some y ∧ ρ[0]? = some s1 ∧ s1.tag = 2 ∧ P1 y s1, fun _ => False, fun _ => False⟩) : ∀ f fd, Fun K x x st f fd → FnOkG P w K mg base (k + 1) f fd ps (GC K (pcA c)) := fun f fd F =>
  (ok_aG (co := pcAF c) S hpn (fun as P1 ⟨s, xs, e, t, q⟩ => ⟨by rw [e, List.length_cons, List.length_map]; exact hn _ _ _ q, s, xs, e, t⟩) (fun f cdv A outer sh H E Γ s0 xs P1 hq hr ⟨s, ys, e, t, q⟩ => by
    obtain ⟨rfl, rfl⟩ := sdat_inj e
    exact (body f cdv A outer sh H E Γ hq hr s0 xs _ t q).imp (fun _ z => z.elim) (fun r _ ⟨y, s1, ey, h1, h2, z⟩ => ⟨fz_al ey, s1, h1, h2, z r ey⟩) (fun _ z => z) fun _ z => z) f fd F).imp fun vs H Q E => gc_afz m
end
/-! ### their calls -/
section
variable {X : Cx} {a b c e : Expr} {es : List Expr} {ρ : Rho} {pos p2 p3 : Pos} {x y : Str} {P : Sl → Rho → Prop} {k : Nat} {ps ks : List Str}
theorem allD_dat : ∀ {rs : List Sl} {xs : List PyData}, allD rs = some xs → rs = dat xs
  | [], _, e => by cases e; rfl
  | .d z :: rs, xs, e => by
    unfold allD at e
    cases q : allD rs with
    | none => rw [q] at e; cases e
    | some ys =>
      rw [q] at e
      cases e
      rw [allD_dat q]
      rfl
  | .no :: _, _, e => nomatch e
  | .ol _ :: _, _, e => nomatch e
  | .od _ :: _, _, e => nomatch e
  | .ob _ :: _, _, e => nomatch e
  | .lo _ :: _, _, e => nomatch e
  | .pl _ :: _, _, e => nomatch e
  | .v _ :: _, _, e => nomatch e
  | .al _ :: _, _, e => nomatch e
  | .kn _ :: _, _, e => nomatch e
  | .nt _ :: _, _, e => nomatch e
theorem allD_of : ∀ xs : List PyData, allD (dat xs) = some xs
  | [] => rfl
  | x :: xs => by
    show (allD (dat xs)).map (x :: ·) = _
    rw [allD_of xs]
    rfl
theorem d_callD {c : PCon PyData} (cl : CalW X x (GC X.K (pcD c))) (mo : MonP c) (he : starEach (e :: es) X.env = (false, eval e X.env) :: starEach es X.env := by rfl) (hpl : (backTo pos (starEach es X.env)).any (·.1) = false := by rfl)
    (h : DA X (e :: es) ρ fun rs ρ1 => ∃ xs, allD rs = some xs ∧ c xs fun y => P (.d y) ρ1) : DE X (.Call (.Name x p2) (e :: es) [] pos) ρ P :=
  d_call cl (monD mo) he hpl fun σ B H Q st k => h σ B H Q st fun rs ρ1 vs B1 H1 ⟨xs, e1, q⟩ => k rs ρ1 vs B1 H1 ⟨xs, e1, xs, rfl, mo _ _ _ (fun y z => ⟨rfl, z⟩) q⟩
theorem d_callL {c : PCon (List PyData)} (cl : CalW X x (GC X.K (pcL c))) (mo : MonP c) (he : starEach (e :: es) X.env = (false, eval e X.env) :: starEach es X.env := by rfl) (hpl : (backTo pos (starEach es X.env)).any (·.1) = false := by rfl)
    (h : DA X (e :: es) ρ fun rs ρ1 => ∃ xs, allD rs = some xs ∧ c xs fun y => P (.ol y) ρ1) : DE X (.Call (.Name x p2) (e :: es) [] pos) ρ P :=
  d_call cl (monL mo) he hpl fun σ B H Q st k => h σ B H Q st fun rs ρ1 vs B1 H1 ⟨xs, e1, q⟩ => k rs ρ1 vs B1 H1 ⟨xs, e1, xs, rfl, mo _ _ _ (fun y z => ⟨rfl, z⟩) q⟩
theorem d_callAD (i : Nat) {c : ACon PyData} (cl : CalW X x (GC X.K (pcA c))) (mo : MonA c) (he : starEach (.Name y p3 :: es) X.env = (false, eval (.Name y p3) X.env) :: starEach es X.env := by rfl) (hpl : (backTo pos (starEach es X.env)).any (·.1) = false := by rfl)
    (hN : X.N[i]? = some y := by rfl) (hv : Vis X.env.scope y := by first | exact Or.inl rfl | exact Or.inr (Or.inl rfl) | exact Or.inr (Or.inr rfl)) (hd : (y == ("__debug__" : Str)) = false := by decide)
    (hcd : (y == ("__classdict__" : Str)) = false := by decide) {s00 : Sl} (h0 : ρ[i]? = some s00 := by rfl) (ho : s00.tag = 2 := by rfl)
    (h : DA X es ρ fun rs ρ1 => ∃ xs s0, allD rs = some xs ∧ ρ1[i]? = some s0 ∧ s0.tag = 2 ∧ c s0 xs fun y s1 => P (.d y) (ρ1.set i s1)) : DE X (.Call (.Name x p2) (.Name y p3 :: es) [] pos) ρ P :=
  d_callA i cl (monA mo) he hpl hN hv hd hcd h0 (by rw [own_tag, ho]; rfl) fun σ B H Q st k => h σ B H Q st fun rs ρ1 vs B1 H1 ⟨xs, s0, e1, h1, t1, q⟩ => k rs ρ1 vs B1 H1 ⟨xs, s0, e1, h1, by rw [own_tag, t1]; rfl, s0, xs, rfl, t1, mo _ _ _ _ (fun y s1 z => ⟨rfl, s1, rfl, z⟩) q⟩
theorem d_callAL (i : Nat) {c : ACon (List PyData)} (cl : CalW X x (GC X.K (pcAL c))) (mo : MonA c) (he : starEach (.Name y p3 :: es) X.env = (false, eval (.Name y p3) X.env) :: starEach es X.env := by rfl) (hpl : (backTo pos (starEach es X.env)).any (·.1) = false := by rfl)
    (hN : X.N[i]? = some y := by rfl) (hv : Vis X.env.scope y := by first | exact Or.inl rfl | exact Or.inr (Or.inl rfl) | exact Or.inr (Or.inr rfl)) (hd : (y == ("__debug__" : Str)) = false := by decide)
    (hcd : (y == ("__classdict__" : Str)) = false := by decide) {s00 : Sl} (h0 : ρ[i]? = some s00 := by rfl) (ho : s00.tag = 2 := by rfl)
    (h : DA X es ρ fun rs ρ1 => ∃ xs s0, allD rs = some xs ∧ ρ1[i]? = some s0 ∧ s0.tag = 2 ∧ c s0 xs fun y s1 => P (.ol y) (ρ1.set i s1)) : DE X (.Call (.Name x p2) (.Name y p3 :: es) [] pos) ρ P :=
  d_callA i cl (monAL mo) he hpl hN hv hd hcd h0 (by rw [own_tag, ho]; rfl) fun σ B H Q st k => h σ B H Q st fun rs ρ1 vs B1 H1 ⟨xs, s0, e1, h1, t1, q⟩ => k rs ρ1 vs B1 H1 ⟨xs, s0, e1, h1, by rw [own_tag, t1]; rfl, s0, xs, rfl, t1, mo _ _ _ _ (fun y s1 z => ⟨rfl, s1, rfl, z⟩) q⟩
theorem d_callKD {c : PCon PyData} {kws : List Keyword} {g : {α : Type} → List α → List α} (cl : CalK X.prog X.w X.K X.mg X.base x k ps ks g (GC X.K (pcD c))) (mo : MonP c) (hr : Room k X.A) (hgv : ∀ {B : Hp} {vs : List V} {xs : List PyData}, DpAll X.K B vs xs → DpAll X.K B (g vs) (g xs)) (hg : Gl X x := by rfl) (hdb : (x == ("__debug__" : Str)) = false := by decide)
    (hall : (backToKw pos (keywordEach kws X.env)).all (·.1.isSome) = true := by rfl) (hks : (backToKw pos (keywordEach kws X.env)).filterMap (·.1) = ks := by rfl)
    (hpl : ((backTo pos (starEach [] X.env)).any (·.1) || (backToKw pos (keywordEach kws X.env)).any (·.1.isNone)) = false := by rfl)
    (h : DK X kws ρ fun rs ρ1 => rs.length = ks.length ∧ ∃ xs, allD rs = some xs ∧ c (g xs) fun y => P (.d y) ρ1) : DE X (.Call (.Name x p2) [] kws pos) ρ P :=
  d_callK cl (monD mo) hr hgv hg hdb hall hks hpl fun σ B H Q st k => h σ B H Q st fun rs ρ1 vs B1 H1 ⟨hl, xs, e1, q⟩ => k rs ρ1 vs B1 H1 ⟨hl, xs, e1, g xs, rfl, mo _ _ _ (fun y z => ⟨rfl, z⟩) q⟩
theorem d_callKL {c : PCon (List PyData)} {kws : List Keyword} {g : {α : Type} → List α → List α} (cl : CalK X.prog X.w X.K X.mg X.base x k ps ks g (GC X.K (pcL c))) (mo : MonP c) (hr : Room k X.A) (hgv : ∀ {B : Hp} {vs : List V} {xs : List PyData}, DpAll X.K B vs xs → DpAll X.K B (g vs) (g xs)) (hg : Gl X x := by rfl) (hdb : (x == ("__debug__" : Str)) = false := by decide)
    (hall : (backToKw pos (keywordEach kws X.env)).all (·.1.isSome) = true := by rfl) (hks : (backToKw pos (keywordEach kws X.env)).filterMap (·.1) = ks := by rfl)
    (hpl : ((backTo pos (starEach [] X.env)).any (·.1) || (backToKw pos (keywordEach kws X.env)).any (·.1.isNone)) = false := by rfl)
    (h : DK X kws ρ fun rs ρ1 => rs.length = ks.length ∧ ∃ xs, allD rs = some xs ∧ c (g xs) fun y => P (.ol y) ρ1) : DE X (.Call (.Name x p2) [] kws pos) ρ P :=
  d_callK cl (monL mo) hr hgv hg hdb hall hks hpl fun σ B H Q st k => h σ B H Q st fun rs ρ1 vs B1 H1 ⟨hl, xs, e1, q⟩ => k rs ρ1 vs B1 H1 ⟨hl, xs, e1, g xs, rfl, mo _ _ _ (fun y z => ⟨rfl, z⟩) q⟩
/-- a built-in by its name, of data -/
theorem d_bltD {id : String} {rc : List V → Hp → VK → Prop} {R : List PyData → (PyData → Prop) → Prop} (hc : CallR X (.builtin id) rc) (hm : X.mg x = none) (hv : bootBuiltins x = some (.builtin id))
    (key : ∀ (B H : Hp) (vs : List V) (xs : List PyData) (Q : VK) (T : PyData → Prop), Ex B H → DpAll X.K B vs xs → R xs T → (∀ y v, T y → Dp X.K B v y → Q v H) → rc vs H Q)
    (h : DA X (e :: es) ρ fun rs ρ1 => ∃ xs, allD rs = some xs ∧ R xs fun y => P (.d y) ρ1)
    (hg : Gl X x := by rfl) (hn : x ≠ "__name__" := by decide) (hd : (x == ("__debug__" : Str)) = false := by decide) (he : starEach (e :: es) X.env = (false, eval e X.env) :: starEach es X.env := by rfl) (hpl : (backTo pos (starEach es X.env)).any (·.1) = false := by rfl) : DE X (.Call (.Name x p2) (e :: es) [] pos) ρ P :=
  fun σ B H Q st k => e_blt hc hm hv (h σ B H _ st fun rs ρ1 vs B1 H1 ⟨xs, ex, q⟩ go ra => key B1 H1 vs xs _ _ go.st.k (rrA_all ra ex) q fun y v t d => k _ _ v B1 H1 t go d) hg hn hd he hpl
/-- .. that makes a list -/
theorem d_bltL {id : String} {rc : List V → Hp → VK → Prop} {R : List PyData → (List PyData → Prop) → Prop} (hc : CallR X (.builtin id) rc) (hm : X.mg x = none) (hv : bootBuiltins x = some (.builtin id))
    (key : ∀ (B H : Hp) (vs : List V) (xs : List PyData) (Q : VK) (T : List PyData → Prop), Ex B H → DpAll X.K B vs xs → R xs T → (∀ ys ws p, T ys → DpAll X.K B ws ys → H p = none → Q (.ref p) (upd H p (.lst ws))) → rc vs H Q)
    (h : DA X (e :: es) ρ fun rs ρ1 => ∃ xs, allD rs = some xs ∧ R xs fun y => P (.ol y) ρ1)
    (hg : Gl X x := by rfl) (hn : x ≠ "__name__" := by decide) (hd : (x == ("__debug__" : Str)) = false := by decide) (he : starEach (e :: es) X.env = (false, eval e X.env) :: starEach es X.env := by rfl) (hpl : (backTo pos (starEach es X.env)).any (·.1) = false := by rfl) : DE X (.Call (.Name x p2) (e :: es) [] pos) ρ P :=
  fun σ B H Q st k => e_blt hc hm hv (h σ B H _ st fun rs ρ1 vs B1 H1 ⟨xs, ex, q⟩ go ra => key B1 H1 vs xs _ _ go.st.k (rrA_all ra ex) q fun ys ws p t d hp =>
    k _ _ _ _ _ t (go.trans (Go.of go.st ((Gr.refl (M := M0) go.st.k).own hp))) ⟨p, _, rfl, go.g.free hp, upd_same, none_of_ex go.st.k hp, ws, rfl, d⟩) hg hn hd he hpl
end
end Dw
namespace Dw
open PySem PySem.Spec L2 Evl Lw

/-! ### built-in functions of data -/
theorem bnf_max : bootBuiltins "max" = some (.builtin "max") := by decide +kernel
theorem bnf_min : bootBuiltins "min" = some (.builtin "min") := by decide +kernel
theorem bnf_abs : bootBuiltins "abs" = some (.builtin "abs") := by decide +kernel
theorem bnf_sum : bootBuiltins "sum" = some (.builtin "sum") := by decide +kernel
theorem bnf_any : bootBuiltins "any" = some (.builtin "any") := by decide +kernel
theorem bnf_all : bootBuiltins "all" = some (.builtin "all") := by decide +kernel
theorem bnf_sorted : bootBuiltins "sorted" = some (.builtin "sorted") := by decide +kernel
abbrev iL (ns : List Int) : List PyData := ns.map PyData.int
abbrev bL (bs : List Bool) : List PyData := bs.map PyData.bool
def srt (ns : List Int) : List Int := ns.mergeSort (fun a b => decide (a ≤ b))
theorem srt_is (ns : List Int) : SrtI (srt ns) ns := by
  refine ⟨List.mergeSort_perm _ _, ?_⟩
  have h := List.pairwise_mergeSort (le := fun (a b : Int) => decide (a ≤ b)) (fun a b c h1 h2 => by simp only [decide_eq_true_eq] at *; omega) (fun a b => by simp only [Bool.or_eq_true, decide_eq_true_eq]; omega) ns
  exact h.imp fun h => by simpa using h
theorem srt_eq {ys ns : List Int} (h : SrtI ys ns) : ys = srt ns := srtI_uniq h (srt_is ns)
section
variable {X : Cx} {a b c e o : Expr} {es : List Expr} {ρ : Rho} {pos p2 p3 q ap : Pos} {x y : Str} {P : Sl → Rho → Prop} {PT : Bool → Rho → Prop}
theorem dp1 {K : PySem.W.Frag} {B : Hp} {vs : List V} {d : PyData} (h : DpAll K B vs [d]) : ∃ v, vs = [v] ∧ Dp K B v d := by
  cases h with
  | cons h t => cases t; exact ⟨_, rfl, h⟩
theorem dp2 {K : PySem.W.Frag} {B : Hp} {vs : List V} {d d2 : PyData} (h : DpAll K B vs [d, d2]) : ∃ v v2, vs = [v, v2] ∧ Dp K B v d ∧ Dp K B v2 d2 := by
  cases h with
  | cons h t => obtain ⟨v, rfl, h2⟩ := dp1 t; exact ⟨_, _, rfl, h, h2⟩
theorem dpi {K : PySem.W.Frag} {B : Hp} {v : V} {i : Int} (h : Dp K B v (.int i)) : v = .int i := by cases h; rfl
theorem dpb {K : PySem.W.Frag} {B : Hp} {v : V} {i : Bool} (h : Dp K B v (.bool i)) : v = .bl i := by cases h; rfl
theorem dpl {K : PySem.W.Frag} {B : Hp} {v : V} {xs : List PyData} (h : Dp K B v (.list xs)) : ∃ p vs, v = .ref p ∧ SqL K B p vs ∧ DpAll K B vs xs := by
  cases h with
  | lst h1 h2 => exact ⟨_, _, rfl, h1, h2⟩
theorem dpt {K : PySem.W.Frag} {B : Hp} {v : V} {xs : List PyData} (h : Dp K B v (.tuple xs)) : ∃ p vs, v = .ref p ∧ SqT K B p vs ∧ DpAll K B vs xs := by
  cases h with
  | tup h1 h2 => exact ⟨_, _, rfl, h1, h2⟩
theorem d_tyD {T : String} {rc : List V → Hp → VK → Prop} {R : List PyData → (PyData → Prop) → Prop} (hc : CallR X (.type T) rc) (hm : X.mg x = none) (hv : bootBuiltins x = some (.type T))
    (key : ∀ (B H : Hp) (vs : List V) (xs : List PyData) (Q : VK) (T : PyData → Prop), Ex B H → DpAll X.K B vs xs → R xs T → (∀ y v, T y → Dp X.K B v y → Q v H) → rc vs H Q)
    (h : DA X (e :: es) ρ fun rs ρ1 => ∃ xs, allD rs = some xs ∧ R xs fun y => P (.d y) ρ1)
    (hg : Gl X x := by rfl) (hn : x ≠ "__name__" := by decide) (hd : (x == ("__debug__" : Str)) = false := by decide) (he : starEach (e :: es) X.env = (false, eval e X.env) :: starEach es X.env := by rfl) (hpl : (backTo pos (starEach es X.env)).any (·.1) = false := by rfl) : DE X (.Call (.Name x p2) (e :: es) [] pos) ρ P :=
  fun σ B H Q st k => e_ty hc hm hv (h σ B H _ st fun rs ρ1 vs B1 H1 ⟨xs, ex, q⟩ go ra => key B1 H1 vs xs _ _ go.st.k (rrA_all ra ex) q fun y v t d => k _ _ v B1 H1 t go d) hg hn hd he hpl
theorem d_tyL {T : String} {rc : List V → Hp → VK → Prop} {R : List PyData → (List PyData → Prop) → Prop} (hc : CallR X (.type T) rc) (hm : X.mg x = none) (hv : bootBuiltins x = some (.type T))
    (key : ∀ (B H : Hp) (vs : List V) (xs : List PyData) (Q : VK) (T : List PyData → Prop), Ex B H → DpAll X.K B vs xs → R xs T → (∀ ys ws p, T ys → DpAll X.K B ws ys → H p = none → Q (.ref p) (upd H p (.lst ws))) → rc vs H Q)
    (h : DA X (e :: es) ρ fun rs ρ1 => ∃ xs, allD rs = some xs ∧ R xs fun y => P (.ol y) ρ1)
    (hg : Gl X x := by rfl) (hn : x ≠ "__name__" := by decide) (hd : (x == ("__debug__" : Str)) = false := by decide) (he : starEach (e :: es) X.env = (false, eval e X.env) :: starEach es X.env := by rfl) (hpl : (backTo pos (starEach es X.env)).any (·.1) = false := by rfl) : DE X (.Call (.Name x p2) (e :: es) [] pos) ρ P :=
  fun σ B H Q st k => e_ty hc hm hv (h σ B H _ st fun rs ρ1 vs B1 H1 ⟨xs, ex, q⟩ go ra => key B1 H1 vs xs _ _ go.st.k (rrA_all ra ex) q fun ys ws p t d hp =>
    k _ _ _ _ _ t (go.trans (Go.of go.st ((Gr.refl (M := M0) go.st.k).own hp))) ⟨p, _, rfl, go.g.free hp, upd_same, none_of_ex go.st.k hp, ws, rfl, d⟩) hg hn hd he hpl
/-- int(n), int(truth) -/
theorem d_int1 (hm : X.mg "int" = none) (hg : Gl X "int" := by rfl) (he : starEach (e :: []) X.env = (false, eval e X.env) :: starEach [] X.env := by rfl)
    (h : DE X e ρ fun r ρ1 => ∃ i, (r = .d (.int i) ∨ ∃ b, r = .d (.bool b) ∧ i = if b then 1 else 0) ∧ P (.d (.int i)) ρ1) : DE X (.Call (.Name "int" p2) [e] [] pos) ρ P :=
  d_tyD (R := fun xs T => ∃ i, (xs = [.int i] ∨ ∃ b, xs = [.bool b] ∧ i = if b then 1 else 0) ∧ T (.int i)) call_int1 hm bnm_int (fun B H vs xs Q T kk d ⟨i, hx, t⟩ q => by
    rcases hx with rfl | ⟨b, rfl, rfl⟩
    · obtain ⟨v, rfl, dd⟩ := dp1 d
      exact .inl ⟨i, by rw [dpi dd], q _ _ t (.int i)⟩
    · obtain ⟨v, rfl, dd⟩ := dp1 d
      exact .inr ⟨b, by rw [dpb dd], q _ _ t (.int _)⟩)
    (da_cons he fun σ B H Q st k => h σ B H Q st fun r ρ1 v B1 H1 ⟨i, hr, q⟩ go rr => k _ _ v B1 H1 (da_nil (by
      rcases hr with rfl | ⟨b, rfl, rfl⟩
      · exact ⟨_, rfl, i, .inl rfl, q⟩
      · exact ⟨_, rfl, _, .inr ⟨b, rfl, rfl⟩, q⟩)) go rr) hg (by decide) (by decide) he (by rfl)
/-- list(xs) -/
theorem d_list1 (hm : X.mg "list" = none) (hg : Gl X "list" := by rfl) (he : starEach (e :: []) X.env = (false, eval e X.env) :: starEach [] X.env := by rfl)
    (h : DE X e ρ fun r ρ1 => ∃ ys, (fz r = some (.list ys) ∨ fz r = some (.tuple ys)) ∧ P (.ol ys) ρ1) : DE X (.Call (.Name "list" p2) [e] [] pos) ρ P :=
  d_tyL (R := fun xs T => ∃ ys, (xs = [.list ys] ∨ xs = [.tuple ys]) ∧ T ys) call_list_of hm bnm_list (fun B H vs xs Q T kk d ⟨ys, hx, t⟩ q => by
    rcases hx with rfl | rfl
    · obtain ⟨v, rfl, dd⟩ := dp1 d
      obtain ⟨p, ws, rfl, s1, s2⟩ := dpl dd
      exact ⟨p, ws, rfl, .inl (ex_l kk s1), fun l hl => q _ _ _ t s2 hl⟩
    · obtain ⟨v, rfl, dd⟩ := dp1 d
      obtain ⟨p, ws, rfl, s1, s2⟩ := dpt dd
      exact ⟨p, ws, rfl, .inr (ex_t kk s1), fun l hl => q _ _ _ t s2 hl⟩)
    (da_cons he fun σ B H Q st k => h σ B H Q st fun r ρ1 v B1 H1 ⟨ys, hr, q⟩ go rr => k _ _ v B1 H1 (da_nil (by
      rcases hr with hr | hr
      · refine ⟨[.list ys], ?_, ys, .inl rfl, q⟩
        cases r with
        | d z => cases hr; rfl
        | ol z => cases hr; rfl
        | _ => cases hr
      · refine ⟨[.tuple ys], ?_, ys, .inr rfl, q⟩
        cases r with
        | d z => cases hr; rfl
        | nt z => cases hr; rfl
        | _ => cases hr)) go rr) hg (by decide) (by decide) he (by rfl)
/-- max(i, j), min(i, j) -/
theorem d_max2 (hm : X.mg "max" = none) (hc : X.calm = true := by rfl) (hg : Gl X "max" := by rfl) (he : starEach (a :: [b]) X.env = (false, eval a X.env) :: starEach [b] X.env := by rfl) (hpl : (backTo pos (starEach [b] X.env)).any (·.1) = false := by rfl)
    (h : DA X [a, b] ρ fun rs ρ1 => ∃ i j, rs = dat [.int i, .int j] ∧ P (.d (.int (max i j))) ρ1) : DE X (.Call (.Name "max" p2) [a, b] [] pos) ρ P :=
  d_bltD (R := fun xs T => ∃ i j : Int, xs = [.int i, .int j] ∧ T (.int (max i j))) (call_max2 hc) hm bnf_max (fun B H vs xs Q T kk d ⟨i, j, hx, t⟩ q => by
    subst hx
    obtain ⟨v, v2, rfl, d1, d2⟩ := dp2 d
    exact ⟨i, j, by rw [dpi d1, dpi d2], by rw [py_max]; exact q _ _ t (.int _)⟩)
    (fun σ B H Q st k => h σ B H Q st fun rs ρ1 vs B1 H1 ⟨i, j, e, q⟩ go ra => k _ _ vs B1 H1 ⟨_, by rw [e]; rfl, i, j, rfl, q⟩ go ra) hg (by decide) (by decide) he hpl
theorem d_min2 (hm : X.mg "min" = none) (hc : X.calm = true := by rfl) (hg : Gl X "min" := by rfl) (he : starEach (a :: [b]) X.env = (false, eval a X.env) :: starEach [b] X.env := by rfl) (hpl : (backTo pos (starEach [b] X.env)).any (·.1) = false := by rfl)
    (h : DA X [a, b] ρ fun rs ρ1 => ∃ i j, rs = dat [.int i, .int j] ∧ P (.d (.int (min i j))) ρ1) : DE X (.Call (.Name "min" p2) [a, b] [] pos) ρ P :=
  d_bltD (R := fun xs T => ∃ i j : Int, xs = [.int i, .int j] ∧ T (.int (min i j))) (call_min2 hc) hm bnf_min (fun B H vs xs Q T kk d ⟨i, j, hx, t⟩ q => by
    subst hx
    obtain ⟨v, v2, rfl, d1, d2⟩ := dp2 d
    exact ⟨i, j, by rw [dpi d1, dpi d2], by rw [py_min]; exact q _ _ t (.int _)⟩)
    (fun σ B H Q st k => h σ B H Q st fun rs ρ1 vs B1 H1 ⟨i, j, e, q⟩ go ra => k _ _ vs B1 H1 ⟨_, by rw [e]; rfl, i, j, rfl, q⟩ go ra) hg (by decide) (by decide) he hpl
theorem d_one1 {id : String} {rc : List V → Hp → VK → Prop} {R : PyData → (PyData → Prop) → Prop} (hc : CallR X (.builtin id) rc) (hm : X.mg x = none) (hv : bootBuiltins x = some (.builtin id))
    (key : ∀ (B H : Hp) (v : V) (y : PyData) (Q : VK) (T : PyData → Prop), Ex B H → Dp X.K B v y → R y T → (∀ y v, T y → Dp X.K B v y → Q v H) → rc [v] H Q)
    (h : DE X e ρ fun r ρ1 => ∃ y, fz r = some y ∧ R y fun z => P (.d z) ρ1)
    (hg : Gl X x := by rfl) (hn : x ≠ "__name__" := by decide) (hd : (x == ("__debug__" : Str)) = false := by decide) (he : starEach (e :: []) X.env = (false, eval e X.env) :: starEach [] X.env := by rfl) : DE X (.Call (.Name x p2) [e] [] pos) ρ P :=
  d_bltD (R := fun xs T => ∃ y, xs = [y] ∧ R y T) hc hm hv (fun B H vs xs Q T kk d ⟨y, hx, t⟩ q => by
    subst hx
    obtain ⟨v, rfl, dd⟩ := dp1 d
    exact key B H v y Q T kk dd t q)
    (da_cons he fun σ B H Q st k => h σ B H Q st fun r ρ1 v B1 H1 ⟨y, hy, q⟩ go rr => k _ _ v B1 H1 (da_nil ⟨[y], (by
      cases r with
      | d z => cases hy; rfl
      | ol z => cases hy; rfl
      | nt z => cases hy; rfl
      | _ => cases hy), y, rfl, q⟩) go rr) hg hn hd he (by rfl)
theorem d_oneL {id : String} {rc : List V → Hp → VK → Prop} {R : PyData → (List PyData → Prop) → Prop} (hc : CallR X (.builtin id) rc) (hm : X.mg x = none) (hv : bootBuiltins x = some (.builtin id))
    (key : ∀ (B H : Hp) (v : V) (y : PyData) (Q : VK) (T : List PyData → Prop), Ex B H → Dp X.K B v y → R y T → (∀ ys ws p, T ys → DpAll X.K B ws ys → H p = none → Q (.ref p) (upd H p (.lst ws))) → rc [v] H Q)
    (h : DE X e ρ fun r ρ1 => ∃ y, fz r = some y ∧ R y fun z => P (.ol z) ρ1)
    (hg : Gl X x := by rfl) (hn : x ≠ "__name__" := by decide) (hd : (x == ("__debug__" : Str)) = false := by decide) (he : starEach (e :: []) X.env = (false, eval e X.env) :: starEach [] X.env := by rfl) : DE X (.Call (.Name x p2) [e] [] pos) ρ P :=
  d_bltL (R := fun xs T => ∃ y, xs = [y] ∧ R y T) hc hm hv (fun B H vs xs Q T kk d ⟨y, hx, t⟩ q => by
    subst hx
    obtain ⟨v, rfl, dd⟩ := dp1 d
    exact key B H v y Q T kk dd t q)
    (da_cons he fun σ B H Q st k => h σ B H Q st fun r ρ1 v B1 H1 ⟨y, hy, q⟩ go rr => k _ _ v B1 H1 (da_nil ⟨[y], (by
      cases r with
      | d z => cases hy; rfl
      | ol z => cases hy; rfl
      | nt z => cases hy; rfl
      | _ => cases hy), y, rfl, q⟩) go rr) hg hn hd he (by rfl)
theorem d_abs (hm : X.mg "abs" = none) (hg : Gl X "abs" := by rfl) (he : starEach (e :: []) X.env = (false, eval e X.env) :: starEach [] X.env := by rfl)
    (h : DE X e ρ fun r ρ1 => ∃ i, r = .d (.int i) ∧ P (.d (.int (i.natAbs : Nat))) ρ1) : DE X (.Call (.Name "abs" p2) [e] [] pos) ρ P :=
  d_one1 (R := fun y T => ∃ i : Int, y = .int i ∧ T (.int (i.natAbs : Nat))) call_abs hm bnf_abs (fun B H v y Q T kk d ⟨i, e, t⟩ q => by
    subst e
    exact ⟨i, by rw [dpi d], by rw [py_abs]; exact q _ _ t (.int _)⟩) (fun σ B H Q st k => h σ B H Q st fun r ρ1 v B1 H1 ⟨i, e, q⟩ go rr => k _ _ v B1 H1 ⟨_, by rw [e]; rfl, i, rfl, q⟩ go rr) hg (by decide) (by decide) he
theorem d_sum (hm : X.mg "sum" = none) (hc : X.calm = true := by rfl) (hg : Gl X "sum" := by rfl) (he : starEach (e :: []) X.env = (false, eval e X.env) :: starEach [] X.env := by rfl)
    (h : DE X e ρ fun r ρ1 => ∃ ns, fz r = some (.list (iL ns)) ∧ P (.d (.int ns.sum)) ρ1) : DE X (.Call (.Name "sum" p2) [e] [] pos) ρ P :=
  d_one1 (R := fun y T => ∃ ns : List Int, y = .list (iL ns) ∧ T (.int ns.sum)) (cr_sum hc) hm bnf_sum (fun B H v y Q T kk d ⟨ns, e, t⟩ q => by
    subst e
    obtain ⟨p, vs, rfl, s1, s2⟩ := dpl d
    exact ⟨p, ns, rfl, by rw [← dpA_eqints s2]; exact ex_l kk s1, q _ _ t (.int _)⟩) (fun σ B H Q st k => h σ B H Q st fun r ρ1 v B1 H1 ⟨ns, e, q⟩ go rr => k _ _ v B1 H1 ⟨_, e, ns, rfl, q⟩ go rr) hg (by decide) (by decide) he
theorem d_any (hm : X.mg "any" = none) (hc : X.calm = true := by rfl) (hg : Gl X "any" := by rfl) (he : starEach (e :: []) X.env = (false, eval e X.env) :: starEach [] X.env := by rfl)
    (h : DE X e ρ fun r ρ1 => ∃ bs, fz r = some (.list (bL bs)) ∧ P (.d (.bool (bs.any id))) ρ1) : DE X (.Call (.Name "any" p2) [e] [] pos) ρ P :=
  d_one1 (R := fun y T => ∃ ns : List Bool, y = .list (bL ns) ∧ T (.bool (ns.any id))) (cr_any hc) hm bnf_any (fun B H v y Q T kk d ⟨ns, e, t⟩ q => by
    subst e
    obtain ⟨p, vs, rfl, s1, s2⟩ := dpl d
    exact ⟨p, ns, rfl, by rw [← dpA_eqbools s2]; exact ex_l kk s1, q _ _ t (.bl _)⟩) (fun σ B H Q st k => h σ B H Q st fun r ρ1 v B1 H1 ⟨ns, e, q⟩ go rr => k _ _ v B1 H1 ⟨_, e, ns, rfl, q⟩ go rr) hg (by decide) (by decide) he
theorem d_all (hm : X.mg "all" = none) (hc : X.calm = true := by rfl) (hg : Gl X "all" := by rfl) (he : starEach (e :: []) X.env = (false, eval e X.env) :: starEach [] X.env := by rfl)
    (h : DE X e ρ fun r ρ1 => ∃ bs, fz r = some (.list (bL bs)) ∧ P (.d (.bool (bs.all id))) ρ1) : DE X (.Call (.Name "all" p2) [e] [] pos) ρ P :=
  d_one1 (R := fun y T => ∃ ns : List Bool, y = .list (bL ns) ∧ T (.bool (ns.all id))) (cr_all hc) hm bnf_all (fun B H v y Q T kk d ⟨ns, e, t⟩ q => by
    subst e
    obtain ⟨p, vs, rfl, s1, s2⟩ := dpl d
    exact ⟨p, ns, rfl, by rw [← dpA_eqbools s2]; exact ex_l kk s1, q _ _ t (.bl _)⟩) (fun σ B H Q st k => h σ B H Q st fun r ρ1 v B1 H1 ⟨ns, e, q⟩ go rr => k _ _ v B1 H1 ⟨_, e, ns, rfl, q⟩ go rr) hg (by decide) (by decide) he
theorem d_sorted (hm : X.mg "sorted" = none) (hg : Gl X "sorted" := by rfl) (he : starEach (e :: []) X.env = (false, eval e X.env) :: starEach [] X.env := by rfl)
    (h : DE X e ρ fun r ρ1 => ∃ ns, fz r = some (.list (iL ns)) ∧ P (.ol (iL (srt ns))) ρ1) : DE X (.Call (.Name "sorted" p2) [e] [] pos) ρ P :=
  d_oneL (R := fun y T => ∃ ns : List Int, y = .list (iL ns) ∧ T (iL (srt ns))) cr_sortedI hm bnf_sorted (fun B H v y Q T kk d ⟨ns, e, t⟩ q => by
    subst e
    obtain ⟨p, vs, rfl, s1, s2⟩ := dpl d
    refine ⟨p, ns, rfl, by rw [← dpA_eqints s2]; exact ex_l kk s1, fun ns' l h1 h2 hl => ?_⟩
    have := srt_eq ⟨h1, h2⟩
    subst this
    exact q _ _ _ t (dpA_ints _) hl) (fun σ B H Q st k => h σ B H Q st fun r ρ1 v B1 H1 ⟨ns, e, q⟩ go rr => k _ _ v B1 H1 ⟨_, e, ns, rfl, q⟩ go rr) hg (by decide) (by decide) he
/-- max(ns), min(ns) -/
theorem d_maxL (hm : X.mg "max" = none) (hc : X.calm = true := by rfl) (hg : Gl X "max" := by rfl) (he : starEach (e :: []) X.env = (false, eval e X.env) :: starEach [] X.env := by rfl)
    (h : DE X e ρ fun r ρ1 => ∃ ns, fz r = some (.list (iL ns)) ∧ ns ≠ [] ∧ ∀ m ∈ ns, (∀ y ∈ ns, y ≤ m) → P (.d (.int m)) ρ1) : DE X (.Call (.Name "max" p2) [e] [] pos) ρ P :=
  d_one1 (R := fun y T => ∃ ns : List Int, y = .list (iL ns) ∧ ns ≠ [] ∧ ∀ m ∈ ns, (∀ y ∈ ns, y ≤ m) → T (.int m)) (cr_max hc) hm bnf_max (fun B H v y Q T kk d ⟨ns, e, ne, t⟩ q => by
    subst e
    obtain ⟨p, vs, rfl, s1, s2⟩ := dpl d
    exact ⟨p, ns, rfl, by rw [← dpA_eqints s2]; exact ex_l kk s1, List.length_pos_iff.mpr ne, fun m h1 h2 => q _ _ (t m h1 h2) (.int _)⟩) (fun σ B H Q st k => h σ B H Q st fun r ρ1 v B1 H1 ⟨ns, e, ne, q⟩ go rr => k _ _ v B1 H1 ⟨_, e, ns, rfl, ne, q⟩ go rr) hg (by decide) (by decide) he
theorem d_minL (hm : X.mg "min" = none) (hc : X.calm = true := by rfl) (hg : Gl X "min" := by rfl) (he : starEach (e :: []) X.env = (false, eval e X.env) :: starEach [] X.env := by rfl)
    (h : DE X e ρ fun r ρ1 => ∃ ns, fz r = some (.list (iL ns)) ∧ ns ≠ [] ∧ ∀ m ∈ ns, (∀ y ∈ ns, m ≤ y) → P (.d (.int m)) ρ1) : DE X (.Call (.Name "min" p2) [e] [] pos) ρ P :=
  d_one1 (R := fun y T => ∃ ns : List Int, y = .list (iL ns) ∧ ns ≠ [] ∧ ∀ m ∈ ns, (∀ y ∈ ns, m ≤ y) → T (.int m)) (cr_min hc) hm bnf_min (fun B H v y Q T kk d ⟨ns, e, ne, t⟩ q => by
    subst e
    obtain ⟨p, vs, rfl, s1, s2⟩ := dpl d
    exact ⟨p, ns, rfl, by rw [← dpA_eqints s2]; exact ex_l kk s1, List.length_pos_iff.mpr ne, fun m h1 h2 => q _ _ (t m h1 h2) (.int _)⟩) (fun σ B H Q st k => h σ B H Q st fun r ρ1 v B1 H1 ⟨ns, e, ne, q⟩ go rr => k _ _ v B1 H1 ⟨_, e, ns, rfl, ne, q⟩ go rr) hg (by decide) (by decide) he
/-- len(set(ns)) of different iL -/
theorem d_lenSet (hm : X.mg "len" = none) (hm2 : X.mg "set" = none) (hg : Gl X "len" := by rfl) (hg2 : Gl X "set" := by rfl) (hc : X.calm = true := by rfl) (na : starEach [a] X.env = (false, eval a X.env) :: starEach [] X.env := by rfl)
    (h : DE X a ρ fun r ρ1 => ∃ ns : List Int, lsOf ρ1 r = some (iL ns) ∧ ns.Nodup ∧ ns.length ≤ 4000 ∧ P (.d (.int (ns.length : Nat))) ρ1) : DE X (.Call (.Name "len" p2) [.Call (.Name "set" p3) [a] [] q] [] pos) ρ P :=
  fun σ B H Q st k => e_lenSet hm hm2 hg hg2 hc na (h σ B H _ st fun r ρ1 v B1 H1 ⟨ns, e, nd, hl, q⟩ go rr => by
    obtain ⟨p, vs, e1, s1, s2⟩ := rr_ls go rr e
    exact ⟨p, ns, e1, by rw [← dpA_eqints s2]; exact s1, nd, hl, k _ _ _ B1 H1 q go (.int _)⟩)
/-- xs * n, xs newly made -/
theorem d_rep (h : DE X a ρ fun r ρ1 => DE X b ρ1 fun s ρ2 => ∃ xs k, r = .ol xs ∧ s = .d (.int k) ∧ -(2 ^ 63) ≤ k ∧ k < 2 ^ 63 ∧ xs.length * k.toNat ≤ sizeLine ∧ P (.ol (List.replicate k.toNat xs).flatten) ρ2) : DE X (.BinOp a .Mult b pos) ρ P :=
  fun σ B H Q st kk => e_bin op_rep (two h st fun r s ρ2 v w B2 H2 ⟨xs, k, e1, e2, h1, h2, hz, q⟩ go r1 r2 => by
    subst e1 e2
    obtain ⟨p, u, rfl, f2, f3, f4, vs, rfl, f5⟩ := r1
    refine ⟨p, k, vs, rfl, rr_int r2, f3, h1, h2, by rw [dpAll_len f5]; exact hz, fun l hl => ?_⟩
    have d : ∀ n : Nat, DpAll X.K B2 (List.replicate n vs).flatten (List.replicate n xs).flatten := fun n => by
      induction n with
      | zero => exact .nil
      | succ n ih => rw [List.replicate_succ, List.replicate_succ, List.flatten_cons, List.flatten_cons]; exact dpA_app f5 ih
    exact kk _ _ _ _ _ q (go.trans (Go.of go.st ((Gr.refl (M := M0) go.st.k).own hl))) ⟨l, _, rfl, go.g.free hl, upd_same, none_of_ex go.st.k hl, _, rfl, d _⟩)
/-- xs.index(e) -/
theorem d_index (hu : X.A.units + 65 < cLine) (h : DE X o ρ fun r ρ1 => ∃ ds, r = .d (.list ds) ∧ DE X e ρ1 fun s ρ2 => ∃ (y : PyData) (j : Nat) (z : PyData), fz s = some y ∧ okD (.list ds) = true ∧ okD y = true ∧ ds[j]? = some z ∧ PyData.eqv z y = true ∧ (∀ (m : Nat) (z' : PyData), m < j → ds[m]? = some z' → PyData.eqv z' y = false) ∧ P (.d (.int (j : Nat))) ρ2)
    (hbase : attributeBase o "index" X.env (eval o X.env) = eval o X.env := by rfl)
    (hfew : ((backTo pos (starEach (e :: []) X.env)).all (fun x => !x.1) && (backToKw pos (keywordEach [] X.env)).all (fun x => x.1.isSome)
      && decide ((e :: ([] : List Expr)).length + ([] : List Keyword).length + (if ([] : List Keyword).isEmpty then 0 else 1) < 30)) = true := by rfl)
    (hline : (ap.endLine == pos.line) = true := by rfl) (hs : starEach (e :: []) X.env = (false, eval e X.env) :: starEach [] X.env := by rfl) (hplain : (backTo pos (starEach [] X.env)).any (·.1) = false := by rfl) :
    DE X (.Call (.Attribute o "index" ap) [e] [] pos) ρ P := fun σ B H Q st k => by
  refine e_bm PySem.F.plainAttrs_list PySem.F.slot_list_index PySem.F.type_list_index (mt_indexD hu) (h := ?_) hbase hfew hline hs hplain
  refine h σ B H _ st fun r ρ1 v B1 H1 ⟨ds, er, q1⟩ go rr => ?_
  subst er
  obtain ⟨p, vs, rfl, s1, s2⟩ := rr_list rr
  refine ⟨tyL (ex_l go.st.k s1), Lw.a_cons hs (q1 σ B1 H1 _ go.st fun s ρ2 w B2 H2 ⟨y, j, z, ey, o1, o2, hz, he, hno, q⟩ go2 r2 => ?_)⟩
  obtain ⟨B3, go3, _, dy⟩ := Rr.fz go2 r2 ey
  have e2 : Ex B1 H2 := go3.g.b.trans go3.st.k
  exact Lw.a_nil ⟨p, w, y, ds, j, z, rfl, rfl, .lst (ex_l e2 s1) (DpAll.mono e2 s2), Dp.mono go3.st.k dy, o1, o2, hz, he, hno, k _ _ _ B3 H2 q (go.trans go3) (.int _)⟩
end
end Dw
namespace Dw
open PySem PySem.Spec L2 Evl Lw

/-! ### own dicts -/
def keyD : L2.Key → PyData
  | .inl i => .int i
  | .inr x => .str x
section
variable {α : Type}
def getD' (kvs : List (L2.Key × α)) (k : L2.Key) : Option α := (kvs.find? fun kv => decide (kv.1 = k)).map (·.2)
def putD (kvs : List (L2.Key × α)) (k : L2.Key) (v : α) : List (L2.Key × α) := if (kvs.any fun kv => decide (kv.1 = k)) = true then kvs.map (fun kv => if kv.1 = k then (kv.1, v) else kv) else kvs ++ [(k, v)]
def mergeD (kvs more : List (L2.Key × α)) : List (L2.Key × α) := more.foldl (fun acc kv => putD acc kv.1 kv.2) kvs
end
section
variable {K : PySem.W.Frag} {B : Hp} {k : L2.Key} {v : V} {d : PyData}
theorem kv_get : ∀ {vs : List (L2.Key × V)} {ds : List (L2.Key × PyData)}, KvAll K B vs ds → (valV vs k = none ∧ getD' ds k = none) ∨ ∃ v d, valV vs k = some v ∧ getD' ds k = some d ∧ Dp K B v d
  | _, _, .nil => .inl ⟨rfl, rfl⟩
  | _, _, .cons (k := k') (v := w) (d := e) h t => by
    unfold valV getD'
    rw [List.find?_cons, List.find?_cons]
    by_cases c : k' = k
    · simp only [c, decide_true]
      exact .inr ⟨w, e, rfl, rfl, h⟩
    · simp only [c, decide_false]
      exact kv_get t
theorem kv_map : ∀ {vs : List (L2.Key × V)} {ds : List (L2.Key × PyData)}, KvAll K B vs ds → Dp K B v d → KvAll K B (vs.map (fun kv => if kv.1 = k then (kv.1, v) else kv)) (ds.map (fun kv => if kv.1 = k then (kv.1, d) else kv))
  | _, _, .nil, _ => .nil
  | _, _, .cons (k := k') h t, hd => by
    rw [List.map_cons, List.map_cons]
    by_cases c : k' = k
    · simp only [c, if_true]
      exact .cons hd (kv_map t hd)
    · simp only [c, if_false]
      exact .cons h (kv_map t hd)
theorem kv_any : ∀ {vs : List (L2.Key × V)} {ds : List (L2.Key × PyData)}, KvAll K B vs ds → (vs.any fun kv => decide (kv.1 = k)) = (ds.any fun kv => decide (kv.1 = k))
  | _, _, .nil => rfl
  | _, _, .cons h t => by rw [List.any_cons, List.any_cons, kv_any t]
theorem kv_app : ∀ {vs ws : List (L2.Key × V)} {ds es : List (L2.Key × PyData)}, KvAll K B vs ds → KvAll K B ws es → KvAll K B (vs ++ ws) (ds ++ es)
  | _, _, _, _, .nil, h => h
  | _, _, _, _, .cons h t, h2 => .cons h (kv_app t h2)
theorem kv_put {vs : List (L2.Key × V)} {ds : List (L2.Key × PyData)} (h : KvAll K B vs ds) (hd : Dp K B v d) : KvAll K B (putK vs k v) (putD ds k d) := by
  unfold putK putD
  rw [kv_any h]
  split
  · exact kv_map h hd
  · exact kv_app h (.cons hd .nil)
theorem kv_merge : ∀ {ms : List (L2.Key × V)} {es : List (L2.Key × PyData)} {vs : List (L2.Key × V)} {ds : List (L2.Key × PyData)}, KvAll K B vs ds → KvAll K B ms es → KvAll K B (mergeK vs ms) (mergeD ds es)
  | _, _, _, _, h, .nil => h
  | _, _, _, _, h, .cons hd t => kv_merge (vs := putK _ _ _) (ds := putD _ _ _) (kv_put h hd) t
theorem kv_len : ∀ {vs : List (L2.Key × V)} {ds : List (L2.Key × PyData)}, KvAll K B vs ds → vs.length = ds.length
  | _, _, .nil => rfl
  | _, _, .cons h t => by rw [List.length_cons, List.length_cons, kv_len t]
theorem kv_keys : ∀ {vs : List (L2.Key × V)} {ds : List (L2.Key × PyData)}, KvAll K B vs ds → vs.map (·.1) = ds.map (·.1)
  | _, _, .nil => rfl
  | _, _, .cons h t => by rw [List.map_cons, List.map_cons, kv_keys t]
theorem dp_key (h : Dp K B v (keyD k)) : v = kV k := by
  cases k with
  | inl i => exact dpi h
  | inr x => cases h; rfl
/-- a list of pairs -/
theorem dp_pairs : ∀ {vs : List V} {kvs : List (L2.Key × PyData)}, DpAll K B vs (kvs.map fun kv => .tuple [keyD kv.1, kv.2]) → ∃ (ps : List Addr) (ws : List (L2.Key × V)), vs = ps.map V.ref ∧ Paired (fun p kv => SqT K B p [kV kv.1, kv.2]) ps ws ∧ KvAll K B ws kvs
  | _, [], .nil => ⟨[], [], rfl, .nil, .nil⟩
  | _, kv :: kvs, .cons h t => by
    obtain ⟨ps, ws, rfl, h1, h2⟩ := dp_pairs t
    obtain ⟨p, us, rfl, s1, s2⟩ := dpt h
    obtain ⟨a, b, rfl, d1, d2⟩ := dp2 s2
    have := dp_key d1
    subst this
    exact ⟨p :: ps, (kv.1, b) :: ws, rfl, .cons s1 h1, .cons d2 h2⟩
end
section
variable {X : Cx} {Γ : Gm} {a b c e o : Expr} {es : List Expr} {ρ : Rho} {O : Out} {pos p2 p3 q ap : Pos} {x y : Str} {P : Sl → Rho → Prop} {PT : Bool → Rho → Prop}
theorem bnf_dict : bootBuiltins "dict" = some (.type "dict") := by decide +kernel
/-- dict(pairs) -/
theorem d_dictP (hm : X.mg "dict" = none) (hc : X.calm = true := by rfl) (hg : Gl X "dict" := by rfl) (he : starEach (e :: []) X.env = (false, eval e X.env) :: starEach [] X.env := by rfl)
    (h : DE X e ρ fun r ρ1 => ∃ kvs, fz r = some (.list (kvs.map fun kv => .tuple [keyD kv.1, kv.2])) ∧ P (.od (mergeD [] kvs)) ρ1) : DE X (.Call (.Name "dict" p2) [e] [] pos) ρ P :=
  fun σ B H Q st k => e_ty (call_dictP hc) hm bnf_dict (Lw.a_cons he (h σ B H _ st fun r ρ1 v B1 H1 ⟨kvs, ey, q⟩ go rr => by
    obtain ⟨B2, go2, _, d⟩ := Rr.fz go rr ey
    obtain ⟨p, vs, rfl, s1, s2⟩ := dpl d
    obtain ⟨ps, ws, rfl, h1, h2⟩ := dp_pairs s2
    refine Lw.a_nil ⟨p, ps, ws, rfl, ex_l go2.st.k s1, h1.mono fun _ _ z => ex_t go2.st.k z, fun l hl => ?_⟩
    exact k _ _ _ _ _ q (go2.trans (Go.of go2.st ((Gr.refl (M := M0) go2.st.k).own hl))) ⟨l, _, rfl, go2.g.free hl, upd_same, none_of_ex go2.st.k hl, _, rfl, kv_merge .nil h2⟩)) hg (by decide) (by decide) he (by rfl)
theorem d_dnew (q : P (.od []) ρ) : DE X (.Dict [] [] pos) ρ P := fun σ B H Q st k => e_dnew fun p hp =>
  k _ _ _ _ _ q (Go.of st ((Gr.refl (M := M0) st.k).own hp)) ⟨p, _, rfl, hp, upd_same, none_of_ex st.k hp, [], rfl, .nil⟩
/-- d[k], d an own dict -/
theorem d_dget (i : Nat) (hu : X.A.units + 1 < cLine) (hs : NoSl b := by intro _ _; rfl) (hN : X.N[i]? = some x := by rfl) (hv : Vis X.env.scope x := by first | exact Or.inl rfl | exact Or.inr (Or.inl rfl) | exact Or.inr (Or.inr rfl)) (hd : (x == ("__debug__" : Str)) = false := by decide)
    (hcd : (x == ("__classdict__" : Str)) = false := by decide) {kv0 : List (L2.Key × PyData)} (h0 : ρ[i]? = some (.od kv0) := by rfl)
    (h : DE X b ρ fun r ρ1 => ∃ k kvs y, r = .d (keyD k) ∧ ρ1[i]? = some (.od kvs) ∧ getD' kvs k = some y ∧ P (.d y) ρ1) : DE X (.Subscript (.Name x p2) b pos) ρ P := fun σ B H Q st kk => by
  obtain ⟨p0, u0, e0, _⟩ := st.at_ h0 rfl
  refine e_dget hu hs ⟨_, pe_var hN hv hd hcd, _, e0, ?_⟩
  refine h σ B H _ st fun r ρ1 v B1 H1 ⟨k, kvs, y, er, h1, hy, q⟩ go rr => ?_
  subst er
  obtain ⟨p, u, e1, g1, g2, vs, rfl, g3⟩ := go.st.at_ h1 rfl
  rw [e0] at e1
  cases e1
  have := dp_key (show Dp X.K B1 v (keyD k) from rr)
  subst this
  rcases kv_get (k := k) g3 with ⟨_, z⟩ | ⟨w, d, z1, z2, z3⟩
  · rw [z] at hy; cases hy
  · rw [z2] at hy
    cases hy
    exact ⟨p0, w, rfl, by rw [← z1]; exact DGet.k g1, kk _ _ _ B1 H1 q go z3⟩
/-- d.get(k, e) -/
theorem d_dget2 (i : Nat) (hu : X.A.units + 1 < cLine) (m : M2 X (.Name x p2) "get" ap b c pos := by exact ⟨by rfl, by rfl, by rfl, by rfl⟩) (hN : X.N[i]? = some x := by rfl) (hv : Vis X.env.scope x := by first | exact Or.inl rfl | exact Or.inr (Or.inl rfl) | exact Or.inr (Or.inr rfl)) (hd : (x == ("__debug__" : Str)) = false := by decide)
    (hcd : (x == ("__classdict__" : Str)) = false := by decide) {kv0 : List (L2.Key × PyData)} (h0 : ρ[i]? = some (.od kv0) := by rfl)
    (h : DE X b ρ fun r ρ1 => ∃ k, r = .d (keyD k) ∧ DE X c ρ1 fun s ρ2 => ∃ z kvs, s = .d z ∧ ρ2[i]? = some (.od kvs) ∧ P (.d ((getD' kvs k).getD z)) ρ2) : DE X (.Call (.Attribute (.Name x p2) "get" ap) [b, c] [] pos) ρ P := fun σ B H Q st kk => by
  obtain ⟨p0, u0, e0, f1, f2, vs0, rfl, f3⟩ := st.at_ h0 rfl
  refine ⟨_, pe_dget2 hu (pe_var hN hv hd hcd) WE.pe WE.pe m, _, e0, p0, rfl, .inl ⟨_, .inl f1⟩, ?_⟩
  refine h σ B H _ st fun r ρ1 v B1 H1 ⟨k, er, q1⟩ go rr => ?_
  subst er
  have := dp_key (show Dp X.K B1 v (keyD k) from rr)
  subst this
  refine q1 σ B1 H1 _ go.st fun s ρ2 w B2 H2 ⟨z, kvs, es, h1, q⟩ go2 r2 => ?_
  subst es
  obtain ⟨p, u, e1, g1, g2, vs, rfl, g3⟩ := go2.st.at_ h1 rfl
  rw [e0] at e1
  cases e1
  refine ⟨valV vs k, DGet.k g1, ?_⟩
  rcases kv_get (k := k) g3 with ⟨z1, z2⟩ | ⟨w', d, z1, z2, z3⟩
  · rw [z2] at q
    rw [z1]
    exact kk _ _ _ B2 H2 q (go.trans go2) r2
  · rw [z2] at q
    rw [z1]
    exact kk _ _ _ B2 H2 q (go.trans go2) z3
/-- d[k] = e -/
theorem ds_dput (i : Nat) (hu : X.A.units + 1 < cLine) (hN : X.N[i]? = some x := by rfl) (hv : Vis X.env.scope x := by first | exact Or.inl rfl | exact Or.inr (Or.inl rfl) | exact Or.inr (Or.inr rfl)) (hd : (x == ("__debug__" : Str)) = false := by decide)
    (hcd : (x == ("__classdict__" : Str)) = false := by decide) {pos' : Pos} (hs : swapsWith e (some (.Subscript (.Name x p2) b pos')) pos.line X.env = pure false := by rfl) {kv0 : List (L2.Key × PyData)} (h0 : ρ[i]? = some (.od kv0) := by rfl)
    (h : DE X e ρ fun r ρ1 => ∃ y, fz r = some y ∧ DE X b ρ1 fun s ρ2 => ∃ k kvs, s = .d (keyD k) ∧ ρ2[i]? = some (.od kvs) ∧ kvs.length < sizeLine ∧ O.nx (ρ2.set i (.od (putD kvs k y)))) : DS X Γ (.Assign [.Subscript (.Name x p2) b pos'] e pos) ρ O := fun σ B H D so eo => by
  obtain ⟨p0, u0, e0, _⟩ := so.st.at_ h0 rfl
  refine s_dput hu hs (h σ B H _ so.st fun r ρ1 v B1 H1 ⟨y, ey, q1⟩ go rr => ?_)
  obtain ⟨B2, go2, _, dy⟩ := Rr.fz go rr ey
  refine ⟨_, pe_var hN hv hd hcd, _, e0, ?_⟩
  refine q1 σ B2 H1 _ go2.st fun s ρ2 w B3 H3 ⟨k, kvs, es, h1, hl, q⟩ go3 r3 => ?_
  subst es
  have := dp_key (show Dp X.K B3 w (keyD k) from r3)
  subst this
  obtain ⟨p, u, e1, g1, g2, vs, rfl, g3⟩ := go3.st.at_ h1 rfl
  rw [e0] at e1
  cases e1
  have gc := Go.change (t := .od (putD kvs k y)) (u := .dK (putK vs k v)) go3.st h1 rfl e0 rfl ⟨_, rfl, kv_put g3 (Dp.mono go3.g.b dy)⟩
  exact ⟨p0, _, rfl, DPut.k g1 (by rw [kv_len g3]; exact hl), eo.nx _ _ _ _ q (so.go ((go2.trans go3).trans gc))⟩
/-- sorted(d), ints -/
theorem d_sortedD (i : Nat) (hm : X.mg "sorted" = none) (hc : X.calm = true := by rfl) (hg : Gl X "sorted" := by rfl) (he : starEach (.Name x p3 :: []) X.env = (false, eval (.Name x p3) X.env) :: starEach [] X.env := by rfl) (hN : X.N[i]? = some x := by rfl) (hv : Vis X.env.scope x := by first | exact Or.inl rfl | exact Or.inr (Or.inl rfl) | exact Or.inr (Or.inr rfl)) (hd : (x == ("__debug__" : Str)) = false := by decide)
    (hcd : (x == ("__classdict__" : Str)) = false := by decide) {kvs : List (L2.Key × PyData)} (h0 : ρ[i]? = some (.od kvs) := by rfl)
    {ks : List Int} (hk : kvs.map (·.1) = ks.map Sum.inl) (hl : ks.length < 64) (q : P (.ol (iL (srt ks))) ρ) : DE X (.Call (.Name "sorted" p2) [.Name x p3] [] pos) ρ P := fun σ B H Q st kk => by
  obtain ⟨p0, u0, e0, g1, g2, vs, rfl, g3⟩ := st.at_ h0 rfl
  refine e_blt (call_sortedDI hc) hm bnf_sorted (Lw.a_cons he ⟨_, pe_var hN hv hd hcd, _, e0, Lw.a_nil ?_⟩) hg (by decide) (by decide) he (by rfl)
  refine ⟨p0, vs, ks, rfl, .inl g1, by rw [kv_keys g3]; exact hk, hl, fun ys l h1 h2 hp => ?_⟩
  have := srt_eq ⟨h1, h2⟩
  subst this
  exact kk _ _ _ _ _ q (Go.of st ((Gr.refl (M := M0) st.k).own hp)) ⟨l, _, rfl, hp, upd_same, none_of_ex st.k hp, _, rfl, dpA_ints _⟩
end
end Dw
namespace Dw
open PySem PySem.Spec L2 Evl Lw

/-! ### data of a known size -/
structure Fl (d : PyData) (k w : Nat) : Prop where
  c : d.canLay0 = true
  p : d.depth ≤ k
  m : d.weight ≤ w
  i : d.intsShort 100 = true
  s : d.showable = true
section
variable {d x y : PyData} {xs : List PyData} {k w n k' w' : Nat}
theorem Fl.mono (h : Fl d k w) (h1 : k ≤ k') (h2 : w ≤ w') : Fl d k' w' := ⟨h.c, Nat.le_trans h.p h1, Nat.le_trans h.m h2, h.i, h.s⟩
abbrev Sml (i : Int) : Prop := i.natAbs < 10 ^ 75
theorem sml_log {i : Int} (h : Sml i) : i.natAbs.log2 < 250 := by
  by_cases c : i.natAbs = 0
  · rw [c]; decide
  · rw [Nat.log2_lt c]
    exact Nat.lt_trans h (by decide)
theorem fl_int {i : Int} (h : Sml i) : Fl (.int i) 0 251 := by
  have hl := sml_log h
  refine ⟨rfl, Nat.le_refl _, ?_, ?_, ?_⟩
  · show (if i == 0 then 0 else i.natAbs.log2 + 1) ≤ 251
    split <;> omega
  · simp only [PyData.intsShort, decide_eq_true_eq]
    have e := int_text_length_le10 (k := 75) (by decide) h
    show (Str.ofString (toString i)).length ≤ 100
    rw [ofString_length]
    exact Nat.le_trans e (by decide)
  · simp only [PyData.showable, decide_eq_true_eq]
    omega
theorem fl_bool {b : Bool} : Fl (.bool b) 0 0 := ⟨rfl, Nat.le_refl _, Nat.le_refl _, rfl, rfl⟩
theorem fl_none : Fl .none 0 0 := ⟨rfl, Nat.le_refl _, Nat.le_refl _, rfl, rfl⟩
theorem fl_str {z : Str} (h : PyData.strOk z = true) (h2 : z.cps.size ≤ w) : Fl (.str z) 0 w := ⟨by simp only [PyData.canLay0]; exact h, Nat.le_refl _, h2, rfl, rfl⟩
theorem fl_all : ∀ {xs : List PyData} {n : Nat}, (∀ x ∈ xs, Fl x k w) → xs.length ≤ n → PyData.canLayAll0 xs = true ∧ PyData.depthAll xs ≤ k ∧ PyData.weightAll xs ≤ (w + 1) * n ∧ PyData.intsShortAll 100 xs = true ∧ PyData.showableAll xs = true
  | [], n, _, _ => ⟨rfl, Nat.zero_le _, Nat.zero_le _, rfl, rfl⟩
  | x :: xs, 0, _, hl => by simp at hl
  | x :: xs, n + 1, h, hl => by
    obtain ⟨h1, h2, h3, h4, h5⟩ := fl_all (xs := xs) (n := n) (fun y hy => h y (List.mem_cons_of_mem _ hy)) (by simpa using hl)
    have hx := h x List.mem_cons_self
    refine ⟨by simp only [PyData.canLayAll0, hx.c, h1, Bool.and_self], by simp only [PyData.depthAll]; exact Nat.max_le.mpr ⟨hx.p, h2⟩, ?_, by simp only [PyData.intsShortAll, hx.i, h4, Bool.and_self], by simp only [PyData.showableAll, hx.s, h5, Bool.and_self]⟩
    simp only [PyData.weightAll]
    have := hx.m
    rw [Nat.mul_add]
    omega
theorem fl_list (h : ∀ x ∈ xs, Fl x k w) (hl : xs.length ≤ n) : Fl (.list xs) (k + 1) ((w + 1) * n) := by
  obtain ⟨h1, h2, h3, h4, h5⟩ := fl_all h hl
  exact ⟨by simp only [PyData.canLay0]; exact h1, by simp only [PyData.depth]; omega, h3, by simp only [PyData.intsShort]; exact h4, by simp only [PyData.showable]; exact h5⟩
theorem fl_tup (h : ∀ x ∈ xs, Fl x k w) (hl : xs.length ≤ n) : Fl (.tuple xs) (k + 1) ((w + 1) * n) := by
  obtain ⟨h1, h2, h3, h4, h5⟩ := fl_all h hl
  exact ⟨by simp only [PyData.canLay0]; exact h1, by simp only [PyData.depth]; omega, h3, by simp only [PyData.intsShort]; exact h4, by simp only [PyData.showable]; exact h5⟩
theorem fl_tup2 {y : PyData} (h1 : Fl x k w) (h2 : Fl y k w) : Fl (.tuple [x, y]) (k + 1) ((w + 1) * 2) := fl_tup (n := 2) (fun z hz => by
  rcases List.mem_cons.mp hz with rfl | hz
  · exact h1
  · rcases List.mem_cons.mp hz with rfl | hz
    · exact h2
    · cases hz) (Nat.le_refl _)
theorem fl_tup3 {y z : PyData} (h1 : Fl x k w) (h2 : Fl y k w) (h3 : Fl z k w) : Fl (.tuple [x, y, z]) (k + 1) ((w + 1) * 3) := fl_tup (n := 3) (fun a ha => by
  rcases List.mem_cons.mp ha with rfl | ha
  · exact h1
  · rcases List.mem_cons.mp ha with rfl | ha
    · exact h2
    · rcases List.mem_cons.mp ha with rfl | ha
      · exact h3
      · cases ha) (Nat.le_refl _)
theorem fl_iL {ns : List Int} (h : ∀ i ∈ ns, Sml i) (hl : ns.length ≤ n) : Fl (.list (iL ns)) 1 (252 * n) := fl_list (fun x hx => by
  obtain ⟨i, hi, rfl⟩ := List.mem_map.mp hx
  exact fl_int (h i hi)) (by rw [List.length_map]; exact hl)
theorem fl_bL {bs : List Bool} (hl : bs.length ≤ n) : Fl (.list (bL bs)) 1 (1 * n) := fl_list (fun x hx => by
  obtain ⟨i, hi, rfl⟩ := List.mem_map.mp hx
  exact fl_bool) (by rw [List.length_map]; exact hl)
theorem Fl.okD (h : Fl d k w) (hk : k ≤ 64 := by decide) : okD d = true := by
  unfold Dw.okD SeqAt.shaped
  rw [h.c, Bool.true_and]
  exact decide_eq_true (Nat.le_trans h.p hk)
theorem Fl.okR (h : Fl d k w) (hk : k ≤ 64 := by decide) (hw : 102 * w + 100 ≤ 2 ^ 24 := by decide) : okR d := by
  refine ⟨Nat.le_trans h.p hk, h.s, PyData.hasDict_of_canLay d h.c, ?_⟩
  have := PyData.shown_le 100 (by decide) d (PyData.leavesShort_of_canLay0 100 d h.c h.i)
  have hw' := h.m
  have : 102 * d.weight ≤ 102 * w := Nat.mul_le_mul_left _ hw'
  show d.shown.length ≤ 2 ^ 24
  omega
theorem Fl.eqv (h : Fl d k w) : PyData.eqv d d = true := SeqAt.eqv_refl d h.c
/-! ### ints in lists -/
theorem any_iL (ns : List Int) (y : Int) : ((iL ns).any fun z => PyData.eqv z (.int y)) = decide (y ∈ ns) := by
  rw [Bool.eq_iff_iff, List.any_eq_true, decide_eq_true_eq]
  constructor
  · rintro ⟨z, hz, e⟩
    obtain ⟨n, hn, rfl⟩ := List.mem_map.mp hz
    simp only [PyData.eqv, beq_iff_eq] at e
    rw [← e]
    exact hn
  · intro h
    exact ⟨.int y, List.mem_map.mpr ⟨y, h, rfl⟩, by simp only [PyData.eqv, beq_self_eq_true]⟩
theorem any_iLn (ns : List Int) : ((iL ns).any fun z => PyData.eqv z .none) = false := by
  rw [Bool.eq_false_iff]
  intro h
  obtain ⟨z, hz, e⟩ := List.any_eq_true.mp h
  obtain ⟨n, hn, rfl⟩ := List.mem_map.mp hz
  simp only [PyData.eqv] at e
  cases e
/-- an int or None -/
def oD : Option Int → PyData
  | none => .none
  | some i => .int i
theorem any_iLo (ns : List Int) (y : Option Int) : ((iL ns).any fun z => PyData.eqv z (oD y)) = match y with | none => false | some i => decide (i ∈ ns) := by
  cases y with
  | none => exact any_iLn ns
  | some i => exact any_iL ns i
theorem fl_oD {y : Option Int} (h : ∀ i, y = some i → Sml i) : Fl (oD y) 0 251 := by
  cases y with
  | none => exact fl_none.mono (Nat.le_refl _) (by decide)
  | some i => exact fl_int (h i rfl)
end
theorem cons_iL (n : Int) (ns : List Int) : PyData.int n :: iL ns = iL (n :: ns) := rfl
theorem app_iL (ns ms : List Int) : iL ns ++ iL ms = iL (ns ++ ms) := (List.map_append ..).symm
theorem rng_iL (n : Nat) : rngD 0 n = iL ((List.range n).map fun i : Nat => (i : Int)) := by
  unfold rngD iL
  rw [List.map_map]
  apply List.map_congr_left
  intro i _
  show PyData.int (0 + (i : Nat)) = .int (i : Nat)
  rw [Int.zero_add]
theorem get_map {α β : Type} {f : α → β} {xs : List α} {i : Nat} {y : β} (h : (xs.map f)[i]? = some y) : ∃ x, xs[i]? = some x ∧ y = f x := by
  rw [List.getElem?_map] at h
  cases q : xs[i]? with
  | none => rw [q] at h; cases h
  | some x => rw [q] at h; cases h; exact ⟨x, rfl, rfl⟩
theorem rng_at {a : Int} {n i : Nat} {z : PyData} (h : (rngD a n)[i]? = some z) : i < n ∧ z = .int (a + (i : Nat)) := by
  unfold rngD at h
  obtain ⟨j, e1, e2⟩ := get_map h
  have hi := (List.getElem?_eq_some_iff.mp e1).1
  rw [List.length_range] at hi
  rw [List.getElem?_range hi] at e1
  cases e1
  exact ⟨hi, e2⟩
theorem rng_len {a : Int} {n : Nat} : (rngD a n).length = n := by unfold rngD; rw [List.length_map, List.length_range]
theorem zip_at {xs ys : List PyData} {i : Nat} {z : PyData} (h : (zipD xs ys)[i]? = some z) : ∃ x y, xs[i]? = some x ∧ ys[i]? = some y ∧ z = .tuple [x, y] := by
  unfold zipD at h
  rw [List.getElem?_zipWith] at h
  cases q : xs[i]? with
  | none => rw [q] at h; cases h
  | some x =>
    cases q2 : ys[i]? with
    | none => rw [q, q2] at h; cases h
    | some y => rw [q, q2] at h; cases h; exact ⟨x, y, rfl, rfl, rfl⟩
theorem enum_at {xs : List PyData} {i : Nat} {z : PyData} (h : (enumD xs)[i]? = some z) : ∃ x, xs[i]? = some x ∧ z = .tuple [.int (i : Nat), x] := by
  unfold enumD at h
  obtain ⟨p, e1, e2⟩ := get_map h
  rw [List.getElem?_zipIdx] at e1
  cases q : xs[i]? with
  | none => rw [q] at e1; cases e1
  | some x =>
    rw [q] at e1
    simp only [Option.map_some, Option.some.injEq] at e1
    subst e1
    exact ⟨x, rfl, by rw [e2]; simp⟩
theorem iL_at {ns : List Int} {i : Nat} {z : PyData} (h : (iL ns)[i]? = some z) : ∃ n, ns[i]? = some n ∧ z = .int n := get_map h
/-- a comprehension without draws: item by item -/
theorem LcI.pure {X : Cx} {tg elt : Expr} {ifs : List Expr} {scope : Scope} {vs : List Nat} {P : List PyData → Rho → Prop} {xs : List PyData} {ρ1 : Rho} (f : PyData → Option PyData) (hz : xs.length < sizeLine) (ht : (wipeR ρ1 vs).map Sl.tag = ρ1.map Sl.tag)
    (hs : ∀ (i : Nat) (x : PyData), xs[i]? = some x → ∀ (s : Shared) (H0 : Hp) (C : Addr) (cl : List (Str × Addr)) (fp : List Addr), DG (X.blk s H0 scope (compEnvC scope cl C X.env) fp) tg x (wipeR ρ1 vs) fun ρ3 ts => (∀ j ∈ ts, j ∈ vs) ∧
      ∀ (s : Shared) (H0 : Hp) (C : Addr) (cl : List (Str × Addr)) (fp : List Addr), DTs (X.blk s H0 scope (compEnvC scope cl C X.env) fp) ifs ρ3 fun b ρ4 => if b = true then
        ∀ (s : Shared) (H0 : Hp) (C : Addr) (cl : List (Str × Addr)) (fp : List Addr), DE (X.blk s H0 scope (compEnvC scope cl C X.env) fp) elt ρ4 fun r ρ5 => ∃ y, fz r = some y ∧ f x = some y ∧ wipeR ρ5 vs = wipeR ρ1 vs
        else f x = none ∧ wipeR ρ4 vs = wipeR ρ1 vs)
    (hd : P (xs.filterMap f) (wipeR ρ1 vs)) : LcI X tg elt ifs scope vs P xs ρ1 := by
  refine ⟨hz, ht, fun i acc ρ => acc = (xs.take i).filterMap f ∧ ρ = wipeR ρ1 vs, ⟨by simp, rfl⟩, ?_, ?_⟩
  · rintro i x acc ρ2 hx ⟨rfl, rfl⟩ s H0 C cl fp
    have e : xs.take (i + 1) = xs.take i ++ [x] := take_next hx
    intro σ B H v Q st d k
    refine hs i x hx s H0 C cl fp σ B H v Q st d fun ρ3 ts σ' ⟨h1, h2⟩ st' gx => k ρ3 ts σ' ⟨h1, fun s H0 C cl fp σ B H Q st k => h2 s H0 C cl fp σ B H Q st fun b ρ4 B' H' hb go => k b ρ4 B' H' ?_ go⟩ st' gx
    cases b with
    | true =>
      rw [if_pos rfl] at hb ⊢
      intro s H0 C cl fp σ B H Q st k
      exact hb s H0 C cl fp σ B H Q st fun r ρ5 v B' H' ⟨y, e1, e2, e3⟩ go rr => k r ρ5 v B' H' ⟨y, e1, by rw [e, List.filterMap_append, List.filterMap_cons, e2]; rfl, e3⟩ go rr
    | false =>
      rw [if_neg (by decide)] at hb ⊢
      exact ⟨by rw [e, List.filterMap_append, List.filterMap_cons, hb.1]; simp, hb.2⟩
  · rintro acc ρ2 ⟨rfl, rfl⟩
    rw [List.take_length]
    exact hd
end Dw
namespace Dw
open PySem PySem.Spec L2 Evl Lw
section
variable {X : Cx} {c : Expr} {ρ : Rho} {PT : Bool → Rho → Prop}
theorem dts_nil (q : PT true ρ) : DTs X [] ρ PT := fun σ B H Q st k => ts_nil (k _ _ B H q (Go.refl st))
theorem dts_one (h : DT X c ρ PT) : DTs X [c] ρ PT := fun σ B H Q st k => ts_one (h σ B H Q st k)
end
/-! ### slices -/
section
variable {α β : Type} {xs : List α} {k j : Nat}
theorem cut_map {f : α → β} {lo hi : Option Int} : cut (xs.map f) lo hi = (cut xs lo hi).map f := by
  unfold cut
  rw [List.length_map, List.map_take, List.map_drop]
theorem cut_fr : cut xs (some (k : Int)) none = xs.drop k := by
  unfold cut
  rw [HT.sIx_none, HT.sIx_nat]
  by_cases h : k ≤ xs.length
  · rw [Nat.min_eq_left h, List.take_of_length_le (by rw [List.length_drop]; exact Nat.le_refl _)]
  · rw [Nat.min_eq_right (by omega), Nat.sub_self, List.take_zero, List.drop_eq_nil_of_le (by omega)]
theorem cut_up : cut xs none (some (k : Int)) = xs.take k := by
  unfold cut
  rw [HT.sIx_none, HT.sIx_nat, List.drop_zero, Nat.sub_zero]
  by_cases h : k ≤ xs.length
  · rw [Nat.min_eq_left h]
  · rw [Nat.min_eq_right (by omega), List.take_of_length_le (Nat.le_refl _), List.take_of_length_le (by omega)]
theorem cut_bt (h : k ≤ j) : cut xs (some (k : Int)) (some (j : Int)) = (xs.drop k).take (j - k) := by
  unfold cut
  rw [HT.sIx_nat, HT.sIx_nat]
  by_cases h2 : j ≤ xs.length
  · rw [Nat.min_eq_left h2, Nat.min_eq_left (Nat.le_trans h h2)]
  · by_cases h3 : k ≤ xs.length
    · rw [Nat.min_eq_left h3, Nat.min_eq_right (by omega), List.take_of_length_le (by rw [List.length_drop]; exact Nat.le_refl _), List.take_of_length_le (by rw [List.length_drop]; omega)]
    · rw [List.drop_eq_nil_of_le (as := xs) (i := k) (by omega), List.drop_eq_nil_of_le (as := xs) (i := min k xs.length) (by omega), List.take_nil, List.take_nil]
theorem cut_all : cut xs none none = xs := by
  unfold cut
  rw [HT.sIx_none, HT.sIx_none, List.drop_zero, Nat.sub_zero, List.take_length]
theorem cut_len {lo hi : Option Int} : (cut xs lo hi).length ≤ xs.length := by
  unfold cut
  rw [List.length_take, List.length_drop]
  omega
end
theorem fm_some {α β : Type} (f : α → β) (xs : List α) : xs.filterMap (fun a => some (f a)) = xs.map f := fm_map f xs
theorem fm_iL {f : PyData → Option PyData} {g : Int → PyData} (ns : List Int) (h : ∀ n ∈ ns, f (.int n) = some (g n)) : (iL ns).filterMap f = ns.map g := by
  induction ns with
  | nil => rfl
  | cons n ns ih =>
    show (PyData.int n :: iL ns).filterMap f = _
    rw [List.filterMap_cons, h n List.mem_cons_self, ih fun m hm => h m (List.mem_cons_of_mem _ hm)]
    rfl
theorem fm_iLf {f : PyData → Option PyData} {p : Int → Bool} {g : Int → PyData} (ns : List Int) (h : ∀ n ∈ ns, f (.int n) = if p n = true then some (g n) else none) : (iL ns).filterMap f = (ns.filter p).map g := by
  induction ns with
  | nil => rfl
  | cons n ns ih =>
    show (PyData.int n :: iL ns).filterMap f = _
    rw [List.filterMap_cons, h n List.mem_cons_self, ih fun m hm => h m (List.mem_cons_of_mem _ hm), List.filter_cons]
    cases p n <;> rfl
theorem fm_map2 {α : Type} {e : α → PyData} {f : PyData → Option PyData} {g : α → PyData} (xs : List α) (h : ∀ a ∈ xs, f (e a) = some (g a)) : (xs.map e).filterMap f = xs.map g := by
  induction xs with
  | nil => rfl
  | cons n ns ih =>
    rw [List.map_cons, List.filterMap_cons, h n List.mem_cons_self, ih fun m hm => h m (List.mem_cons_of_mem _ hm)]
    rfl
theorem fm_map2f {α : Type} {e : α → PyData} {f : PyData → Option PyData} {p : α → Bool} {g : α → PyData} (xs : List α) (h : ∀ a ∈ xs, f (e a) = if p a = true then some (g a) else none) : (xs.map e).filterMap f = (xs.filter p).map g := by
  induction xs with
  | nil => rfl
  | cons n ns ih =>
    rw [List.map_cons, List.filterMap_cons, h n List.mem_cons_self, ih fun m hm => h m (List.mem_cons_of_mem _ hm), List.filter_cons]
    cases p n <;> rfl
theorem zip_map2 {α β : Type} {e : α → PyData} {g : β → PyData} (xs : List α) (ys : List β) : zipD (xs.map e) (ys.map g) = (xs.zip ys).map fun p => .tuple [e p.1, g p.2] := by
  unfold zipD
  induction xs generalizing ys with
  | nil => rfl
  | cons x xs ih =>
    cases ys with
    | nil => rfl
    | cons y ys => rw [List.map_cons, List.map_cons, List.zipWith_cons_cons, ih]; rfl
/-! ### in (..) of flat things -/
def vOf : PyData → Option V
  | .none => some .non
  | .bool b => some (.bl b)
  | .int i => some (.int i)
  | .str x => some (.str x)
  | _ => none
theorem dp_vOf {K : PySem.W.Frag} {B : Hp} {d : PyData} {v u : V} (h : Dp K B v d) (e : vOf d = some u) : v = u := by
  cases h with
  | non => cases e; rfl
  | bl b => cases e; rfl
  | int i => cases e; rfl
  | str x => cases e; rfl
  | lst _ _ => cases e
  | tup _ _ => cases e
theorem dpA_vOf {K : PySem.W.Frag} {B : Hp} : ∀ {vs : List V} {ds : List PyData} {us : List V}, DpAll K B vs ds → ds.map vOf = us.map some → vs = us
  | _, _, [], .nil, _ => rfl
  | _, _, _ :: _, .nil, e => by cases e
  | _, _, [], .cons _ _, e => by cases e
  | _, _, u :: us, .cons h t, e => by
    rw [List.map_cons, List.map_cons] at e
    obtain ⟨e1, e2⟩ := List.cons.inj e
    rw [dp_vOf h e1, dpA_vOf t e2]
section
variable {X : Cx} {a b : Expr} {ρ : Rho} {P : Sl → Rho → Prop} {pos : Pos}
theorem d_inT (neg : Bool) {op : CmpOp} (ho : OpR X (compareOp op) (rIn X.K neg)) (hm : behindInMarks op b = false := by first | exact nomark _ | rfl)
    (h : DE X a ρ fun r ρ1 => ∃ x u, r = .d x ∧ vOf x = some u ∧ DE X b ρ1 fun s ρ2 => ∃ ds us, (s = .d (.tuple ds) ∨ s = .d (.list ds)) ∧ ds.map vOf = us.map some ∧ flatV u = true ∧ us.all flatV = true ∧ P (.d (.bool (if neg then !inV u us else inV u us))) ρ2) : DE X (.Compare a [op] [b] pos) ρ P :=
  fun σ B H Q st k => e_cmp ho hm (h σ B H _ st fun r ρ1 v B1 H1 ⟨x, u, er, ex, q1⟩ g1 r1 => by
    subst er
    have := dp_vOf r1 ex
    subst this
    refine q1 σ B1 H1 _ g1.st fun s ρ2 w B2 H2 ⟨ds, us, es, eu, f1, f2, q⟩ g2 r2 => ?_
    rcases es with rfl | rfl
    · obtain ⟨p, ws, rfl, s1, s2⟩ := rr_tup r2
      have := dpA_vOf s2 eu
      subst this
      exact ⟨p, ws, rfl, .inr (ex_t g2.st.k s1), f1, f2, k _ _ _ B2 H2 q (g1.trans g2) (.bl _)⟩
    · obtain ⟨p, ws, rfl, s1, s2⟩ := rr_list r2
      have := dpA_vOf s2 eu
      subst this
      exact ⟨p, ws, rfl, .inl (ex_l g2.st.k s1), f1, f2, k _ _ _ B2 H2 q (g1.trans g2) (.bl _)⟩)
end
/-! ### chains of comparisons of ints -/
section
variable {X : Cx} {a b c : Expr} {ρ : Rho} {P : Sl → Rho → Prop} {PT : Bool → Rho → Prop} {pos : Pos}
abbrev IC (X : Cx) (op : CmpOp) (f : Int → Int → Bool) : Prop := OpR X (compareOp op) fun x y H Q => ∃ i j, x = .int i ∧ y = .int j ∧ Q (.bl (f i j)) H
theorem dt_ichain {op op' : CmpOp} {f g : Int → Int → Bool} (ho : IC X op f) (ho' : IC X op' g) (hm : lastMarks [op, op'] [b, c] = false := by with_unfolding_all rfl)
    (h : DE X a ρ fun r ρ1 => DE X b ρ1 fun s ρ2 => ∃ i j, r = .d (.int i) ∧ s = .d (.int j) ∧ if f i j = true then DE X c ρ2 fun t ρ3 => ∃ l, t = .d (.int l) ∧ PT (g j l) ρ3 else PT false ρ2) : DT X (.Compare a [op, op'] [b, c] pos) ρ PT :=
  fun σ B H Q st k => t_chain ho ho' hm (two h st fun r s ρ2 v w B2 H2 ⟨i, j, e1, e2, q⟩ go r1 r2 => by
    subst e1 e2
    refine ⟨i, j, rr_int r1, rr_int r2, _, rfl, ?_⟩
    cases z : f i j with
    | true =>
      rw [z, if_pos rfl] at q
      rw [if_pos rfl]
      exact q σ B2 H2 _ go.st fun t ρ3 u B3 H3 ⟨l, e3, q3⟩ g3 r3 => by
        subst e3
        exact ⟨j, l, rr_int r2, rr_int r3, _, rfl, k _ _ B3 H3 q3 (go.trans g3)⟩
    | false =>
      rw [z, if_neg (by decide)] at q
      rw [if_neg (by decide)]
      exact ⟨_, rfl, k _ _ B2 H2 q go⟩)
theorem d_ichain {op op' : CmpOp} {f g : Int → Int → Bool} (ho : IC X op f) (ho' : IC X op' g) (hm : lastMarks [op, op'] [b, c] = false := by with_unfolding_all rfl)
    (h : DE X a ρ fun r ρ1 => DE X b ρ1 fun s ρ2 => ∃ i j, r = .d (.int i) ∧ s = .d (.int j) ∧ if f i j = true then DE X c ρ2 fun t ρ3 => ∃ l, t = .d (.int l) ∧ P (.d (.bool (g j l))) ρ3 else P (.d (.bool false)) ρ2) : DE X (.Compare a [op, op'] [b, c] pos) ρ P :=
  fun σ B H Q st k => e_chain ho ho' hm (two h st fun r s ρ2 v w B2 H2 ⟨i, j, e1, e2, q⟩ go r1 r2 => by
    subst e1 e2
    refine ⟨i, j, rr_int r1, rr_int r2, _, rfl, ?_⟩
    cases z : f i j with
    | true =>
      rw [z, if_pos rfl] at q
      rw [if_pos rfl]
      exact q σ B2 H2 _ go.st fun t ρ3 u B3 H3 ⟨l, e3, q3⟩ g3 r3 => by
        subst e3
        exact ⟨j, l, rr_int r2, rr_int r3, k _ _ _ B3 H3 q3 (go.trans g3) (.bl _)⟩
    | false =>
      rw [z, if_neg (by decide)] at q
      rw [if_neg (by decide)]
      exact k _ _ _ B2 H2 q go (.bl _))
end
/-! ### == of ints, texts, truths -/
section
variable {X : Cx} {a b c : Expr} {ρ : Rho} {P : Sl → Rho → Prop} {PT : Bool → Rho → Prop} {pos : Pos}
theorem op_eqI : IC X .Eq fun i j => decide (i = j) := by
  intro pins s σ H x y v u Q I rx ry h
  obtain ⟨i, j, rfl, rfl, q⟩ := h
  exact op_eq pins s σ H _ _ v u Q I rx ry ⟨rfl, by rw [dec_int]; rw [beq_dec] ; exact q⟩
theorem op_neI : IC X .NotEq fun i j => !decide (i = j) := by
  intro pins s σ H x y v u Q I rx ry h
  obtain ⟨i, j, rfl, rfl, q⟩ := h
  exact op_ne pins s σ H _ _ v u Q I rx ry ⟨rfl, by rw [dec_int]; rw [beq_dec] ; exact q⟩
/-- texts -/
theorem d_seq (h : DE X a ρ fun r ρ1 => DE X b ρ1 fun s ρ2 => ∃ i j, r = .d (.str i) ∧ s = .d (.str j) ∧ P (.d (.bool (i == j))) ρ2) : DE X (.Compare a [.Eq] [b] pos) ρ P :=
  fun σ B H Q st k => e_cmp op_eq (nomark _) (two h st fun r s ρ2 v w B2 H2 ⟨i, j, e1, e2, q⟩ go r1 r2 => by
    subst e1 e2
    cases rr_str r1
    cases rr_str r2
    exact ⟨rfl, by rw [dec_str]; exact k _ _ _ B2 H2 q go (.bl _)⟩)
theorem d_sne (h : DE X a ρ fun r ρ1 => DE X b ρ1 fun s ρ2 => ∃ i j, r = .d (.str i) ∧ s = .d (.str j) ∧ P (.d (.bool (!(i == j)))) ρ2) : DE X (.Compare a [.NotEq] [b] pos) ρ P :=
  fun σ B H Q st k => e_cmp op_ne (nomark _) (two h st fun r s ρ2 v w B2 H2 ⟨i, j, e1, e2, q⟩ go r1 r2 => by
    subst e1 e2
    cases rr_str r1
    cases rr_str r2
    exact ⟨rfl, by rw [dec_str]; exact k _ _ _ B2 H2 q go (.bl _)⟩)
/-- truths -/
theorem d_bne (h : DE X a ρ fun r ρ1 => DE X b ρ1 fun s ρ2 => ∃ i j, r = .d (.bool i) ∧ s = .d (.bool j) ∧ P (.d (.bool (!(i == j)))) ρ2) : DE X (.Compare a [.NotEq] [b] pos) ρ P :=
  fun σ B H Q st k => e_cmp op_ne (nomark _) (two h st fun r s ρ2 v w B2 H2 ⟨i, j, e1, e2, q⟩ go r1 r2 => by
    subst e1 e2
    cases rr_bool r1
    cases rr_bool r2
    exact ⟨rfl, by rw [dec_bl]; exact k _ _ _ B2 H2 q go (.bl _)⟩)
end
/-! ### comparisons, as values and as tests -/
def DC (X : Cx) (a : Expr) (op : CmpOp) (b : Expr) (ρ : Rho) (PB : Bool → Rho → Prop) : Prop := ∃ r : R2, OpR X (compareOp op) r ∧ behindInMarks op b = false ∧ ∀ σ B H (Q : VK), St X.K ρ σ B H → (∀ k ρ' B' H', PB k ρ' → Go X.K ρ σ B H ρ' B' H' → Q (.bl k) H') →
  WE X a σ H fun x H1 => WE X b σ H1 fun y H2 => r x y H2 Q
section
variable {X : Cx} {a b c : Expr} {ρ : Rho} {P : Sl → Rho → Prop} {PT PB : Bool → Rho → Prop} {pos : Pos} {op : CmpOp}
theorem d_cm (h : DC X a op b ρ fun k ρ1 => P (.d (.bool k)) ρ1) : DE X (.Compare a [op] [b] pos) ρ P := by
  obtain ⟨r, ho, hm, h⟩ := h
  exact fun σ B H Q st k => e_cmp ho hm (h σ B H Q st fun z ρ' B' H' q go => k _ _ _ B' H' q go (.bl _))
theorem dt_cm (h : DC X a op b ρ PT) : DT X (.Compare a [op] [b] pos) ρ PT := by
  obtain ⟨r, ho, hm, h⟩ := h
  exact fun σ B H Q st k => t_cmp ho hm (h σ B H _ st fun z ρ' B' H' q go => ⟨z, rfl, k _ _ B' H' q go⟩)
theorem dc_i {f : Int → Int → Bool} (ho : IC X op f) (hm : behindInMarks op b = false := by first | exact nomark _ | rfl) (h : DE X a ρ fun r ρ1 => DE X b ρ1 fun s ρ2 => ∃ i j, r = .d (.int i) ∧ s = .d (.int j) ∧ PB (f i j) ρ2) : DC X a op b ρ PB :=
  ⟨_, ho, hm, fun σ B H Q st k => two h st fun r s ρ2 v w B2 H2 ⟨i, j, e1, e2, q⟩ go r1 r2 => by
    subst e1 e2
    exact ⟨i, j, rr_int r1, rr_int r2, k _ _ B2 H2 q go⟩⟩
theorem dc_eq (hu : X.A.units + 64 < cLine) (h : DE X a ρ fun r ρ1 => ∃ x, fz r = some x ∧ DE X b ρ1 fun s ρ2 => ∃ y, fz s = some y ∧ okD x = true ∧ okD y = true ∧ PB (PyData.eqv x y) ρ2) : DC X a .Eq b ρ PB :=
  ⟨_, op_eqD hu, nomark _, fun σ B H Q st k => twoD h st fun x y ρ2 v w B2 H2 ⟨s1, s2, q⟩ go d1 d2 => ⟨x, y, Dp.mono go.st.k d1, Dp.mono go.st.k d2, s1, s2, k _ _ B2 H2 q go⟩⟩
theorem dc_ne (hu : X.A.units + 64 < cLine) (h : DE X a ρ fun r ρ1 => ∃ x, fz r = some x ∧ DE X b ρ1 fun s ρ2 => ∃ y, fz s = some y ∧ okD x = true ∧ okD y = true ∧ PB (!PyData.eqv x y) ρ2) : DC X a .NotEq b ρ PB :=
  ⟨_, op_neD hu, nomark _, fun σ B H Q st k => twoD h st fun x y ρ2 v w B2 H2 ⟨s1, s2, q⟩ go d1 d2 => ⟨x, y, Dp.mono go.st.k d1, Dp.mono go.st.k d2, s1, s2, k _ _ B2 H2 q go⟩⟩
theorem twoDl {PP : PyData → List PyData → Rho → Prop} (h : DE X a ρ fun r ρ1 => ∃ x, fz r = some x ∧ DE X b ρ1 fun s ρ2 => ∃ y, lsOf ρ2 s = some y ∧ PP x y ρ2) {σ : L2.St} {B H : Hp} {Q : V → V → Hp → Prop} (st : St X.K ρ σ B H)
    (k : ∀ x y ρ2 v w B2 H2, PP x y ρ2 → Go X.K ρ σ B H ρ2 B2 H2 → Dp X.K B2 v x → Dp X.K H2 w (.list y) → Q v w H2) : WE X a σ H fun v H1 => WE X b σ H1 fun w H2 => Q v w H2 :=
  h σ B H _ st fun r ρ1 v B1 H1 ⟨x, ex, h1⟩ g1 r1 => by
    obtain ⟨B1', g1', x1, d1⟩ := Rr.fz g1 r1 ex
    refine h1 σ B1' H1 _ g1'.st fun s ρ2 w B2 H2 ⟨y, ey, h2⟩ g2 r2 => ?_
    have go := g1'.trans g2
    obtain ⟨p, vs, rfl, f2, f3⟩ := rr_ls go (Rr.early g1' r2) ey
    exact k x y ρ2 v _ B2 H2 h2 go (Dp.mono g2.g.b d1) (.lst f2 (DpAll.mono go.st.k f3))
/-- in a list -/
theorem dc_in (hu : X.A.units + 65 < cLine) (h : DE X a ρ fun r ρ1 => ∃ x, fz r = some x ∧ DE X b ρ1 fun s ρ2 => ∃ y, lsOf ρ2 s = some y ∧ okD x = true ∧ okD (.list y) = true ∧ PB (y.any fun z => PyData.eqv z x) ρ2) (hm : behindInMarks .In b = false := by first | exact nomark _ | rfl) : DC X a .In b ρ PB :=
  ⟨_, op_inD hu, hm, fun σ B H Q st k => twoDl h st fun x y ρ2 v w B2 H2 ⟨s1, s2, q⟩ go d1 d2 => ⟨x, y, Dp.mono go.st.k d1, d2, s1, s2, k _ _ B2 H2 q go⟩⟩
theorem dc_notin (hu : X.A.units + 65 < cLine) (h : DE X a ρ fun r ρ1 => ∃ x, fz r = some x ∧ DE X b ρ1 fun s ρ2 => ∃ y, lsOf ρ2 s = some y ∧ okD x = true ∧ okD (.list y) = true ∧ PB (!y.any fun z => PyData.eqv z x) ρ2) (hm : behindInMarks .NotIn b = false := by first | exact nomark _ | rfl) : DC X a .NotIn b ρ PB :=
  ⟨_, op_notInD hu, hm, fun σ B H Q st k => twoDl h st fun x y ρ2 v w B2 H2 ⟨s1, s2, q⟩ go d1 d2 => ⟨x, y, Dp.mono go.st.k d1, d2, s1, s2, k _ _ B2 H2 q go⟩⟩
/-- in (..) of flat things -/
theorem dc_inT (neg : Bool) (ho : OpR X (compareOp op) (rIn X.K neg)) (hm : behindInMarks op b = false := by first | exact nomark _ | rfl)
    (h : DE X a ρ fun r ρ1 => ∃ x u, r = .d x ∧ vOf x = some u ∧ DE X b ρ1 fun s ρ2 => ∃ ds us, (s = .d (.tuple ds) ∨ s = .d (.list ds)) ∧ ds.map vOf = us.map some ∧ flatV u = true ∧ us.all flatV = true ∧ PB (if neg then !inV u us else inV u us) ρ2) : DC X a op b ρ PB :=
  ⟨_, ho, hm, fun σ B H Q st k => h σ B H _ st fun r ρ1 v B1 H1 ⟨x, u, er, ex, q1⟩ g1 r1 => by
    subst er
    have := dp_vOf r1 ex
    subst this
    refine q1 σ B1 H1 _ g1.st fun s ρ2 w B2 H2 ⟨ds, us, es, eu, f1, f2, q⟩ g2 r2 => ?_
    rcases es with rfl | rfl
    · obtain ⟨p, ws, rfl, s1, s2⟩ := rr_tup r2
      have := dpA_vOf s2 eu
      subst this
      exact ⟨p, ws, rfl, .inr (ex_t g2.st.k s1), f1, f2, k _ _ B2 H2 q (g1.trans g2)⟩
    · obtain ⟨p, ws, rfl, s1, s2⟩ := rr_list r2
      have := dpA_vOf s2 eu
      subst this
      exact ⟨p, ws, rfl, .inl (ex_l g2.st.k s1), f1, f2, k _ _ B2 H2 q (g1.trans g2)⟩⟩
/-- texts; truths -/
theorem dc_seq (h : DE X a ρ fun r ρ1 => DE X b ρ1 fun s ρ2 => ∃ i j, r = .d (.str i) ∧ s = .d (.str j) ∧ PB (i == j) ρ2) : DC X a .Eq b ρ PB :=
  ⟨_, op_eq, nomark _, fun σ B H Q st k => two h st fun r s ρ2 v w B2 H2 ⟨i, j, e1, e2, q⟩ go r1 r2 => by
    subst e1 e2
    cases rr_str r1
    cases rr_str r2
    exact ⟨rfl, by rw [dec_str]; exact k _ _ B2 H2 q go⟩⟩
theorem dc_sne (h : DE X a ρ fun r ρ1 => DE X b ρ1 fun s ρ2 => ∃ i j, r = .d (.str i) ∧ s = .d (.str j) ∧ PB (!(i == j)) ρ2) : DC X a .NotEq b ρ PB :=
  ⟨_, op_ne, nomark _, fun σ B H Q st k => two h st fun r s ρ2 v w B2 H2 ⟨i, j, e1, e2, q⟩ go r1 r2 => by
    subst e1 e2
    cases rr_str r1
    cases rr_str r2
    exact ⟨rfl, by rw [dec_str]; exact k _ _ B2 H2 q go⟩⟩
theorem dc_beq (h : DE X a ρ fun r ρ1 => DE X b ρ1 fun s ρ2 => ∃ i j, r = .d (.bool i) ∧ s = .d (.bool j) ∧ PB (i == j) ρ2) : DC X a .Eq b ρ PB :=
  ⟨_, op_eq, nomark _, fun σ B H Q st k => two h st fun r s ρ2 v w B2 H2 ⟨i, j, e1, e2, q⟩ go r1 r2 => by
    subst e1 e2
    cases rr_bool r1
    cases rr_bool r2
    exact ⟨rfl, by rw [dec_bl]; exact k _ _ B2 H2 q go⟩⟩
theorem dc_bne (h : DE X a ρ fun r ρ1 => DE X b ρ1 fun s ρ2 => ∃ i j, r = .d (.bool i) ∧ s = .d (.bool j) ∧ PB (!(i == j)) ρ2) : DC X a .NotEq b ρ PB :=
  ⟨_, op_ne, nomark _, fun σ B H Q st k => two h st fun r s ρ2 v w B2 H2 ⟨i, j, e1, e2, q⟩ go r1 r2 => by
    subst e1 e2
    cases rr_bool r1
    cases rr_bool r2
    exact ⟨rfl, by rw [dec_bl]; exact k _ _ B2 H2 q go⟩⟩
end
/-! ### a list's parts -/
section
variable {X : Cx} {es : List Expr} {ρ : Rho} {pos : Pos} {PG : Rho → List Nat → Prop} {ys : List PyData}
theorem dg_unl {k n : Nat} (hl : ys.length = n) (hc : X.calm = true := by rfl) (hn : (assignEach es X.env).length = n := by rfl) (hst : (assignEach es X.env).findIdx? (·.1) = none := by rfl) (h : DGs X es ys ρ PG) : DG X (.Tuple es k pos) (.list ys) ρ PG := fun σ B H v Q st d kk => by
  cases d with
  | lst h1 h2 => exact ⟨_, pg_unl hc WGs.pgs hn hst, _, _, rfl, ex_l st.k h1, by rw [dpAll_len h2]; exact hl, h σ B H _ _ st h2 kk⟩
end
/-! ### first the value -/
section
variable {X : Cx} {c : Expr} {ρ : Rho} {P : Sl → Rho → Prop} {PT : Bool → Rho → Prop}
theorem dt_to (b : Bool) (h : DT X c ρ fun k ρ1 => k = b ∧ ρ1 = ρ) (q : PT b ρ) : DT X c ρ PT := fun σ B H Q st k => h σ B H Q st fun z ρ1 B' H' ⟨e1, e2⟩ go => k z ρ1 B' H' (by rw [e1, e2]; exact q) go
theorem d_to (y : Sl) (h : DE X c ρ fun r ρ1 => r = y ∧ ρ1 = ρ) (q : P y ρ) : DE X c ρ P := fun σ B H Q st k => h σ B H Q st fun z ρ1 v B' H' ⟨e1, e2⟩ go rr => k z ρ1 v B' H' (by rw [e1, e2]; exact q) go rr
end
theorem room65 {k : Nat} {A : Around} (r : Room k A) : A.units + 65 < cLine := by have := r.un; omega
theorem room70 {k : Nat} {A : Around} (r : Room k A) : A.units + 70 < cLine := by have := r.un; omega
theorem room1 {k : Nat} {A : Around} (r : Room k A) : A.units + 1 < cLine := by have := r.un; omega
/-! ### an own object of which less is known -/
section
variable {K : PySem.W.Frag} {ρ ρ2 : Rho} {σ : L2.St} {B H B' H' : Hp} {i : Nat} {s t : Sl}
theorem St.like (st : St K ρ σ B H) (h : ρ[i]? = some s) (ho : s.own = true) (ht : t.own = true) (hs : ∀ u, Sh K B u s → Sh K B u t) : St K (ρ.set i t) σ B H := by
  have li : i < ρ.length := (List.getElem?_eq_some_iff.mp h).1
  have back : ∀ (j : Nat) (q : Sl), (ρ.set i t)[j]? = some q → q.own = true → ∃ q', ρ[j]? = some q' ∧ q'.own = true := fun j q hq oq => by
    by_cases c : i = j
    · subst c; exact ⟨s, h, ho⟩
    · rw [List.getElem?_set_ne c] at hq; exact ⟨q, hq, oq⟩
  refine ⟨st.k, by rw [List.length_set]; exact st.l, fun j q hq => ?_, fun j k q r p h1 h2 o1 o2 e1 e2 => ?_⟩
  · by_cases c : i = j
    · subst c
      rw [List.getElem?_set_self li] at hq
      cases hq
      obtain ⟨p, u, e1, e2, e3, e4⟩ := st.at_ h ho
      exact ⟨_, e1, Rs.put ht ⟨p, u, rfl, e2, e3, hs u e4⟩⟩
    · rw [List.getElem?_set_ne c] at hq
      exact st.s j q hq
  · obtain ⟨q', h1', o1'⟩ := back j q h1 o1
    obtain ⟨r', h2', o2'⟩ := back k r h2 o2
    exact st.u j k q' r' p h1' h2' o1' o2' e1 e2
theorem ow_like {p : Addr} (h : ρ[i]? = some s) (ho : s.own = true) (z : Ow (ρ.set i t) σ p) : Ow ρ σ p := by
  obtain ⟨j, q, h1, h2, h3⟩ := z
  by_cases c : i = j
  · subst c; exact ⟨i, s, h, ho, h3⟩
  · rw [List.getElem?_set_ne c] at h1
    exact ⟨j, q, h1, h2, h3⟩
theorem map_tag_set (h : ρ[i]? = some s) : (ρ.map Sl.tag).set i s.tag = ρ.map Sl.tag := by
  apply List.ext_getElem?
  intro j
  by_cases c : i = j
  · subst c
    rw [List.getElem?_set_self (by rw [List.length_map]; exact (List.getElem?_eq_some_iff.mp h).1), List.getElem?_map, h]
    rfl
  · rw [List.getElem?_set_ne c]
end
section
variable {X : Cx} {Γ : Gm} {e : Expr} {ss : List Stmt} {ρ : Rho} {O : Out} {P : Sl → Rho → Prop}
/-- handed on to a def that may change it -/
theorem d_lo (i : Nat) {S : HO → Prop} (h0 : ρ[i]? = some (.lo S) := by rfl) (h : DE X e (ρ.set i (.ob S)) fun r ρ2 => ∃ S2, ρ2[i]? = some (.ob S2) ∧ P r (ρ2.set i (.lo S2))) : DE X e ρ P := fun σ B H Q st k => by
  refine h σ B H Q (st.like h0 rfl rfl fun u z => z) fun r ρ2 v B' H' ⟨S2, h2, q⟩ go rr => k r _ v B' H' q ⟨go.g.weak fun a z => ow_like h0 rfl z, ?_, go.st.like h2 rfl rfl fun u z => z, st⟩ rr
  have e := go.w
  rw [List.map_set] at e ⊢
  rw [e, List.set_set]
  exact (map_tag_set h0 : (ρ.map Sl.tag).set i (Sl.tag (.lo S)) = _)
theorem d_pl (i : Nat) {xs : List PyData} (h0 : ρ[i]? = some (.ol xs) := by rfl) (h : DE X e (ρ.set i (.pl xs)) fun r ρ2 => ∃ ys, ρ2[i]? = some (.pl ys) ∧ P r (ρ2.set i (.ol ys))) : DE X e ρ P := fun σ B H Q st k => by
  refine h σ B H Q (st.like h0 rfl rfl fun u z => z) fun r ρ2 v B' H' ⟨ys, h2, q⟩ go rr => k r _ v B' H' q ⟨go.g.weak fun a z => ow_like h0 rfl z, ?_, go.st.like h2 rfl rfl fun u z => z, st⟩ rr
  have e := go.w
  rw [List.map_set] at e ⊢
  rw [e, List.set_set]
  exact (map_tag_set h0 : (ρ.map Sl.tag).set i (Sl.tag (.ol xs)) = _)
theorem ds_deck (i : Nat) {xs : List PyData} (S : HO → Prop) (h : ρ[i]? = some (.ol xs) := by rfl) (hS : ∀ (B : Hp) (u : HO), Sh X.K B u (.ol xs) → S u) (q : DSs X Γ ss (ρ.set i (.lo S)) O) : DSs X Γ ss ρ O := fun σ B H D so eo =>
  q σ B H D ⟨so.st.like h rfl rfl fun u z => hS B u z, so.g, so.f, fun j s p h1 h2 h3 => by
    by_cases c : i = j
    · subst c
      rw [List.getElem?_set_self (List.getElem?_eq_some_iff.mp h).1] at h1
      cases h1
      rcases so.o i _ p h rfl h3 with z | z
      · exact .inl ⟨rfl, z.2⟩
      · exact nomatch z.1
    · rw [List.getElem?_set_ne c] at h1
      exact so.o j s p h1 h2 h3⟩ eo
end
end Dw
namespace Dw
open PySem PySem.Spec L2 Evl Lw
/-! ### made lists as data; list(range(n)) -/
section
variable {X : Cx} {a e : Expr} {ρ : Rho} {pos p2 p3 pos2 : Pos} {P : Sl → Rho → Prop}
theorem d_frz (h : DE X e ρ fun r ρ1 => ∃ z, fz r = some z ∧ P (.d z) ρ1) : DE X e ρ P := fun σ B H Q st k => h σ B H Q st fun r ρ1 v B1 H1 ⟨z, ez, q⟩ go rr => by
  obtain ⟨B2, go2, _, d⟩ := Rr.fz go rr ez
  exact k _ _ v B2 H1 q go2 d
def iota (n : Nat) : List Int := (List.range n).map fun (i : Nat) => (i : Int)
theorem iota_len (n : Nat) : (iota n).length = n := by unfold iota; rw [List.length_map, List.length_range]
theorem iota_nodup (n : Nat) : (iota n).Nodup := by
  unfold iota
  show List.Pairwise _ _
  rw [List.pairwise_map]
  exact List.nodup_range.imp fun h z => h (by omega)
theorem mem_iota {n : Nat} {i : Int} : i ∈ iota n ↔ 0 ≤ i ∧ i < n := by
  unfold iota
  rw [List.mem_map]
  constructor
  · rintro ⟨k, hk, rfl⟩
    have := List.mem_range.mp hk
    omega
  · intro h
    exact ⟨i.toNat, List.mem_range.mpr (by omega), by omega⟩
theorem d_listRg (hml : X.mg "list" = none) (hmr : X.mg "range" = none) (hc : X.calm = true := by rfl) (hg : Gl X "list" := by rfl) (hg2 : Gl X "range" := by rfl)
    (na : starEach [a] X.env = (false, eval a X.env) :: starEach [] X.env := by rfl) (na2 : starEach [.Call (.Name "range" p3) [a] [] pos2] X.env = (false, eval (.Call (.Name "range" p3) [a] [] pos2) X.env) :: starEach [] X.env := by rfl)
    (h : DE X a ρ fun r ρ1 => ∃ n : Int, r = .d (.int n) ∧ n ≤ 2 ^ 24 ∧ -(2 ^ 62) ≤ n ∧ P (.ol (iL (iota n.toNat))) ρ1) : DE X (.Call (.Name "list" p2) [.Call (.Name "range" p3) [a] [] pos2] [] pos) ρ P :=
  fun σ B H Q st k => e_listRg hml hmr hc hg hg2 na na2 (h σ B H _ st fun r ρ1 v B1 H1 ⟨n, er, h1, h2, q⟩ go rr => by
    subst er
    refine ⟨n, rr_int rr, ⟨by decide, by decide, h2, by omega, by omega⟩, fun l hl => ?_⟩
    refine k _ _ _ _ _ q (go.trans (Go.of go.st ((Gr.refl (M := M0) go.st.k).own hl))) ⟨l, _, rfl, go.g.free hl, upd_same, none_of_ex go.st.k hl, _, rfl, ?_⟩
    have d : ∀ (m : Nat) (k : Nat), DpAll X.K B1 ((List.range' k m).map fun (i : Nat) => V.int (0 + (i : Int))) (iL ((List.range' k m).map fun (i : Nat) => (i : Int))) := by
      intro m
      induction m with
      | zero => intro k; exact .nil
      | succ m ih =>
        intro k
        rw [List.range'_succ]
        refine .cons ?_ (ih _)
        show Dp X.K B1 (V.int (0 + (k : Int))) (PyData.int (k : Int))
        rw [Int.zero_add]
        exact .int _
    have d0 := d n.toNat 0
    rw [← List.range_eq_range'] at d0
    have e : (n - 0).toNat = n.toNat := by rw [Int.sub_zero]
    unfold rgV iota
    rw [e]
    exact d0)
end
end Dw
namespace Dw
open PySem PySem.Spec L2 Evl Lw
/-! ### dicts from ints to truths -/
def dkb (ks : List Int) (f : Int → Bool) : List (L2.Key × PyData) := ks.map fun i => (.inl i, .bool (f i))
theorem dkb_any (ks : List Int) (f : Int → Bool) (r : Int) : ((dkb ks f).any fun kv => decide (kv.1 = Sum.inl r)) = decide (r ∈ ks) := by
  unfold dkb
  rw [List.any_map]
  by_cases c : r ∈ ks
  · rw [decide_eq_true c, List.any_eq_true]
    exact ⟨r, c, by simp⟩
  · rw [decide_eq_false c, List.any_eq_false]
    intro i hi
    simp only [Function.comp, Sum.inl.injEq, decide_eq_true_eq]
    intro e
    exact c (e ▸ hi)
theorem dkb_put (ks : List Int) (f : Int → Bool) (r : Int) (b : Bool) : putD (dkb ks f) (.inl r) (.bool b) = dkb (if r ∈ ks then ks else ks ++ [r]) (fun i => if i = r then b else f i) := by
  unfold putD
  rw [dkb_any]
  by_cases c : r ∈ ks
  · rw [if_pos (decide_eq_true c), if_pos c]
    unfold dkb
    rw [List.map_map]
    refine List.map_congr_left fun i _ => ?_
    simp only [Function.comp, Sum.inl.injEq]
    by_cases e : i = r
    · rw [if_pos e, if_pos e]
    · rw [if_neg e, if_neg e]
  · rw [if_neg (by simpa using c), if_neg c]
    unfold dkb
    rw [List.map_append]
    congr 1
    · refine List.map_congr_left fun i hi => ?_
      show _ = (Sum.inl i, PyData.bool (if i = r then b else f i))
      rw [if_neg (fun (e : i = r) => c (e ▸ hi))]
    · simp
theorem dkb_get (ks : List Int) (f : Int → Bool) (r : Int) : getD' (dkb ks f) (.inl r) = if r ∈ ks then some (.bool (f r)) else none := by
  unfold getD' dkb
  induction ks with
  | nil => rfl
  | cons k ks ih =>
    rw [List.map_cons, List.find?_cons]
    by_cases e : k = r
    · subst e
      simp
    · rw [show decide ((Sum.inl k : L2.Key) = Sum.inl r) = false by simpa using e]
      simp only
      rw [ih]
      by_cases c : r ∈ ks
      · rw [if_pos c, if_pos (List.mem_cons_of_mem _ c)]
      · rw [if_neg c, if_neg (fun h => by rcases List.mem_cons.mp h with h | h; exact e h.symm; exact c h)]
theorem dkb_merge : ∀ (ms ks : List Int) (f : Int → Bool), (∀ i, f i = decide (i ∈ ks)) → (ks ++ ms).Nodup → mergeD (dkb ks f) (ms.map fun r => (.inl r, .bool true)) = dkb (ks ++ ms) fun i => decide (i ∈ ks ++ ms)
  | [], ks, f, hf, _ => by
    rw [List.append_nil]
    show dkb ks f = _
    congr 1
    exact funext hf
  | m :: ms, ks, f, hf, nd => by
    have hm : m ∉ ks := fun h => by
      rw [List.nodup_append] at nd
      exact nd.2.2 m h m List.mem_cons_self rfl
    show mergeD (putD (dkb ks f) (.inl m) (.bool true)) _ = _
    rw [dkb_put, if_neg hm]
    have := dkb_merge ms (ks ++ [m]) (fun i => if i = m then true else f i) (fun i => by
      by_cases e : i = m
      · simp [e]
      · simp [e, hf i]) (by rw [List.append_assoc]; exact nd)
    rw [this]
    rw [List.append_assoc]
    rfl
theorem dkb_keys (ks : List Int) (f : Int → Bool) : (dkb ks f).map (·.1) = ks.map Sum.inl := by unfold dkb; rw [List.map_map]; rfl
theorem pigeon : ∀ (ks us : List Int), ks.Nodup → (∀ i ∈ ks, i ∈ us) → ks.length ≤ us.length
  | [], _, _, _ => Nat.zero_le _
  | k :: ks, us, nd, h => by
    have h1 := List.nodup_cons.mp nd
    have hk := h k List.mem_cons_self
    have := pigeon ks (us.erase k) h1.2 fun i hi => by
      have : i ≠ k := fun e => h1.1 (e ▸ hi)
      exact (List.mem_erase_of_ne this).mpr (h i (List.mem_cons_of_mem _ hi))
    rw [List.length_erase_of_mem hk] at this
    have := List.length_pos_of_mem hk
    simp only [List.length_cons]
    omega
end Dw
namespace Dw
open PySem PySem.Spec L2 Evl Lw
/-! ### tuples of newly made lists, which are changed later -/
section
variable {K : PySem.W.Frag} {ρ ρ1 : Rho} {σ : L2.St} {B H B1 H1 : Hp} {v : V}
theorem Rr.fzN {xs : List PyData} (a : Go K ρ σ B H ρ1 B1 H1) (h : Rr K σ H B1 H1 v (.ol xs)) : ∃ B2, Go K ρ σ B H ρ1 B2 H1 ∧ Ex B1 B2 ∧ Dp K B2 v (.list xs) ∧ ∃ p ws, v = .ref p ∧ H p = none ∧ B2 p = some (.lst ws) ∧ ws.length = xs.length := by
  obtain ⟨p, u, e1, e2, e3, e4, vs, e5, e6⟩ := h
  subst e1 e5
  have nb : ¬ Ow ρ1 σ p := fun z => (a.st0.own (ow_of a.w z)).2 e2
  have g : Gr (Ow ρ σ) B H (upd B1 p (.lst vs)) H1 := a.g.learn e2 e4 e3
  have x1 : Ex B1 (upd B1 p (.lst vs)) := Ex.new e4
  have st : St K ρ1 σ (upd B1 p (.lst vs)) H1 := by
    refine ⟨g.k, a.st.l, fun i s h => ?_, a.st.u⟩
    obtain ⟨o, e, rs⟩ := a.st.s i s h
    refine ⟨o, e, ?_⟩
    by_cases c : s.own = true
    · obtain ⟨q, u, f1, f2, f3, f4⟩ := Rs.get c rs
      refine Rs.put c ⟨q, u, f1, f2, ?_, Sh.mono x1 f4⟩
      rw [upd_ne (fun z => nb ⟨i, s, h, c, by rw [e, f1, z]⟩)]
      exact f3
    · cases s with
      | no => trivial
      | d x => obtain ⟨v, e1, e2⟩ := rs; exact ⟨v, e1, Dp.mono x1 e2⟩
      | v w => exact rs
      | al i => exact rs
      | ol _ => exact absurd rfl c
      | od _ => exact absurd rfl c
      | ob _ => exact absurd rfl c
      | lo _ => exact absurd rfl c
      | pl _ => exact absurd rfl c
      | kn F => obtain ⟨v, e1, e2⟩ := rs; exact ⟨v, e1, F.m _ _ _ x1 e2⟩
      | nt _ => exact rs
  exact ⟨_, ⟨g, a.w, st, a.st0⟩, x1, .lst (SqL.of upd_same) (DpAll.mono x1 e6), p, vs, rfl, e2, upd_same, dpAll_len e6⟩
inductive RrN (K : PySem.W.Frag) (H B' : Hp) : List V → List (PyData × Bool) → Prop
  | nil : RrN K H B' [] []
  | cons {v vs x b xs} : Dp K B' v x → (b = true → ∃ p ws, v = .ref p ∧ H p = none ∧ B' p = some (.lst ws) ∧ ∃ ys, x = .list ys ∧ ws.length = ys.length) → RrN K H B' vs xs → RrN K H B' (v :: vs) ((x, b) :: xs)
theorem RrN.dp {B' : Hp} : ∀ {vs : List V} {xs : List (PyData × Bool)}, RrN K H B' vs xs → DpAll K B' vs (xs.map Prod.fst)
  | _, _, .nil => .nil
  | _, _, .cons d _ t => .cons d t.dp
theorem RrN.at {B' : Hp} : ∀ {vs : List V} {xs : List (PyData × Bool)} {i : Nat} {x : PyData}, RrN K H B' vs xs → xs[i]? = some (x, true) → ∃ p ws, vs[i]? = some (.ref p) ∧ H p = none ∧ B' p = some (.lst ws) ∧ ∃ ys, x = .list ys ∧ ws.length = ys.length
  | _, _, i, x, .nil, e => by simp at e
  | _, _, 0, x, .cons d f t, e => by
    simp only [List.getElem?_cons_zero, Option.some.injEq, Prod.mk.injEq] at e
    obtain ⟨rfl, rfl⟩ := e
    obtain ⟨p, ws, rfl, h⟩ := f rfl
    exact ⟨p, ws, rfl, h⟩
  | _, _, i + 1, x, .cons d f t, e => t.at (i := i) (by simpa using e)
theorem RrN.up {B' B2 H2 : Hp} (b : Ex B' B2) (n : ∀ p, H2 p = none → H p = none) : ∀ {vs : List V} {xs : List (PyData × Bool)}, RrN K H2 B' vs xs → RrN K H B2 vs xs
  | _, _, .nil => .nil
  | _, _, .cons d f t => .cons (Dp.mono b d) (fun e => by obtain ⟨p, ws, e1, e2, e3, e4⟩ := f e; exact ⟨p, ws, e1, n p e2, b p _ e3, e4⟩) (t.up b n)
end
def isOl : Sl → Bool
  | .ol _ => true
  | _ => false
def DN (X : Cx) (es : List Expr) (ρ : Rho) (P : List (PyData × Bool) → Rho → Prop) : Prop := ∀ σ B H (Q : List V → Hp → Prop), St X.K ρ σ B H → (∀ xs ρ' vs B' H', P xs ρ' → Go X.K ρ σ B H ρ' B' H' → RrN X.K H B' vs xs → Q vs H') → WA X es σ H Q
section
variable {X : Cx} {Γ : Gm} {a b c e o : Expr} {es : List Expr} {ρ : Rho} {O : Out} {pos p2 p3 p4 p5 : Pos} {x y : Str} {P : Sl → Rho → Prop} {PN : List (PyData × Bool) → Rho → Prop} {k : Nat} {ps ks : List Str} {rest body : List Stmt}
theorem dn_nil (q : PN [] ρ) : DN X [] ρ PN := fun σ B H Q st k => a_nil (k _ _ _ B H q (Go.refl st) .nil)
theorem dn_cons (hp : starEach (e :: es) X.env = (false, eval e X.env) :: starEach es X.env := by rfl) (h : DE X e ρ fun r ρ1 => ∃ x, fz r = some x ∧ DN X es ρ1 fun ys ρ2 => PN ((x, isOl r) :: ys) ρ2) : DN X (e :: es) ρ PN := fun σ B H Q st k =>
  Lw.a_cons hp (h σ B H _ st fun r ρ1 v B1 H1 ⟨x, ex, q⟩ go rr => by
    have fin : ∀ B2, Go X.K ρ σ B H ρ1 B2 H1 → Dp X.K B2 v x → (isOl r = true → ∃ p ws, v = .ref p ∧ H p = none ∧ B2 p = some (.lst ws) ∧ ∃ ys, x = .list ys ∧ ws.length = ys.length) → WA X es σ H1 fun xs H2 => Q (v :: xs) H2 := fun B2 go2 d f =>
      q σ B2 H1 _ go2.st fun ys ρ2 vs B3 H3 q2 go3 rn => k _ ρ2 _ B3 H3 q2 (go2.trans go3) (.cons (Dp.mono go3.g.b d) (fun e => by
        obtain ⟨p, ws, e1, e2, e3, e4⟩ := f e
        exact ⟨p, ws, e1, e2, go3.g.b p _ e3, e4⟩) (rn.up (Ex.refl _) fun p hp => go2.g.free hp))
    cases r with
    | ol xs =>
      cases ex
      obtain ⟨B2, go2, _, d, p, ws, e1, e2, e3, e4⟩ := Rr.fzN go rr
      exact fin B2 go2 d fun _ => ⟨p, ws, e1, e2, e3, xs, rfl, e4⟩
    | _ =>
      obtain ⟨B2, go2, _, d⟩ := Rr.fz go rr ex
      exact fin B2 go2 d fun e => nomatch e)
theorem d_tupN {n : Nat} (h : DN X es ρ fun xs ρ1 => xs.length ≤ sizeLine ∧ P (.nt xs) ρ1) : DE X (.Tuple es n pos) ρ P :=
  fun σ B H Q st k => e_tup (h σ B H _ st fun xs ρ1 vs B1 H1 ⟨hl, q⟩ go rn => by
    have d := rn.dp
    refine ⟨by rw [dpAll_len d, List.length_map]; exact hl, fun p hp => ?_⟩
    have hb : B1 p = none := none_of_ex go.st.k hp
    have g0 : Gr M0 B1 H1 (upd B1 p (.tup vs)) (upd H1 p (.tup vs)) := (Gr.refl (M := M0) go.st.k).new hp
    have g2 := Go.of go.st g0
    have x1 : Ex B1 (upd B1 p (.tup vs)) := Ex.new hb
    refine k _ _ _ _ _ q (go.trans g2) ⟨.tup (SqT.of upd_same) (DpAll.mono x1 d), p, vs, rfl, upd_same, fun i x hx => ?_⟩
    obtain ⟨a, ws, e1, e2, e3, e4⟩ := rn.at hx
    exact ⟨a, ws, e1, e2, x1 a _ e3, e4⟩)
/-! promises -/
def pcN (c : PCon (List (PyData × Bool))) : Con := fun as P => ∃ xs, as = dat xs ∧ c xs fun ys => P (.nt ys) (dat xs)
theorem monN {c : PCon (List (PyData × Bool))} (m : MonP c) : Mon (pcN c) := fun as P1 P2 h ⟨xs, e, q⟩ => ⟨xs, e, m _ _ _ (fun r => h _ _) q⟩
abbrev outN (P1 : List (PyData × Bool) → Prop) : Out := ⟨fun _ => False, fun r _ => ∃ y, r = .nt y ∧ P1 y, fun _ => False, fun _ => False⟩
theorem d_callN {c : PCon (List (PyData × Bool))} (cl : CalW X x (GC X.K (pcN c))) (mo : MonP c) (he : starEach (e :: es) X.env = (false, eval e X.env) :: starEach es X.env := by rfl) (hpl : (backTo pos (starEach es X.env)).any (·.1) = false := by rfl)
    (h : DA X (e :: es) ρ fun rs ρ1 => ∃ xs, allD rs = some xs ∧ c xs fun y => P (.nt y) ρ1) : DE X (.Call (.Name x p2) (e :: es) [] pos) ρ P :=
  d_call cl (monN mo) he hpl fun σ B H Q st k => h σ B H Q st fun rs ρ1 vs B1 H1 ⟨xs, ex, q⟩ go ra => k rs ρ1 vs B1 H1 ⟨xs, ex, xs, rfl, mo _ _ _ (fun y q => ⟨rfl, q⟩) q⟩ go ra
end
section
variable {P : Program} {w : World} {K : PySem.W.Frag} {mg : Str → Option Value} {base : Heap} {x : Str} {st : Stmt} {N ps : List Str} {k : Nat}
theorem ok_N {c : PCon (List (PyData × Bool))} (hn : ∀ xs P1, c xs P1 → xs.length = ps.length) (S : FnScope N ps (defScope st)) (hpn : ps.length ≤ N.length)
    (body : BodyD P w K mg base x st N k (fun _ => True) fun X Γ => ∀ xs P1, c xs P1 → DSs X Γ (defBody st) (dat xs ++ pads N ps.length) (outN P1)) : ∀ f fd, Fun K x x st f fd → FnOk P w K mg base CX0 (k + 1) f fd ps (GC K (pcN c)) :=
  ok_p (co := pcN c) S hpn (fun as P1 ⟨xs, e, q⟩ => ⟨by rw [e, List.length_map]; exact hn _ _ q, xs, e⟩) (fun f cdv A outer s H E Γ xs P1 hr ⟨ys, e, q⟩ => by
    cases dat_inj e
    exact (body f cdv A outer s H E Γ trivial hr xs _ q).imp (fun _ z => z.elim) (fun r _ ⟨y, ey, z⟩ => by subst ey; exact ⟨rfl, z⟩) (fun _ z => z) fun _ z => z)
/-- as data alone -/
theorem gc_nd {c : PCon (List (PyData × Bool))} (m : MonP c) {vs : List V} {H : Hp} {Q : VK} {E : XK} : GC K (pcD fun xs P => c xs fun ys => P (.tuple (ys.map Prod.fst))) vs H Q E → GC K (pcN c) vs H Q E := fun ⟨B, as, st0, xs, e, q⟩ => ⟨B, as, st0, xs, e, m _ _ _ (fun y hy v B' H' go rr => hy v B' H' go rr.1) q⟩
end
end Dw
namespace Dw
open PySem PySem.Spec L2 Evl Lw
/-! ### told = (..); if ..: return False; told[0].append(..) -/
/-- what an own slot holds hangs on nothing that is known -/
def Flat (s : Sl) : Prop := ∀ (K : PySem.W.Frag) (B B' : Hp) (u : HO), Sh K B u s → Sh K B' u s
def fl0 : PyData → Bool
  | .int _ => true
  | .bool _ => true
  | .none => true
  | .str _ => true
  | _ => false
theorem dp_fl0 {K : PySem.W.Frag} {B B' : Hp} {v : V} {d : PyData} (e : fl0 d = true) (h : Dp K B v d) : Dp K B' v d := by
  cases h with
  | int i => exact .int i
  | bl i => exact .bl i
  | non => exact .non
  | str i => exact .str i
  | lst _ _ => cases e
  | tup _ _ => cases e
theorem dpA_fl0 {K : PySem.W.Frag} {B B' : Hp} : ∀ {vs : List V} {ds : List PyData}, ds.all fl0 = true → DpAll K B vs ds → DpAll K B' vs ds
  | _, _, _, .nil => .nil
  | _, _, e, .cons d t => by
    rw [List.all_cons, Bool.and_eq_true] at e
    exact .cons (dp_fl0 e.1 d) (dpA_fl0 e.2 t)
theorem flat_pl {xs : List PyData} (h : xs.all fl0 = true) : Flat (.pl xs) := fun K B B' u ⟨vs, e, d⟩ => ⟨vs, e, dpA_fl0 h d⟩
theorem flat_ol {xs : List PyData} (h : xs.all fl0 = true) : Flat (.ol xs) := fun K B B' u ⟨vs, e, d⟩ => ⟨vs, e, dpA_fl0 h d⟩
theorem flat_lo {S : HO → Prop} : Flat (.lo S) := fun K B B' u h => h
theorem flat_ob {S : HO → Prop} : Flat (.ob S) := fun K B B' u h => h
structure TM (K : PySem.W.Frag) (Γ : Gm) (ρ : Rho) (σ : L2.St) (B H : Hp) (i : Nat) (fl : List Bool) (m : Nat) : Prop where
  so : SO K Γ ρ σ B H
  no : ρ[i]? = some .no
  ex : ∃ T vs, σ[i]? = some (some (.ref T)) ∧ H T = some (.tup vs) ∧ ¬ Ow ρ σ T ∧ ∀ k : Nat, fl[k]? = some true → ∃ p ws, vs[k]? = some (.ref p) ∧ H p = some (.lst ws) ∧ B p = none ∧ Γ.H0 p = none ∧ ¬ Ow ρ σ p ∧ ws.length ≤ m
def DM (X : Cx) (Γ : Gm) (ss : List Stmt) (ρ : Rho) (i : Nat) (fl : List Bool) (m : Nat) (O : Out) : Prop := ∀ σ B H D, TM X.K Γ ρ σ B H i fl m → EO X.K Γ O D → WSs X ss D σ H
section
variable {X : Cx} {Γ : Gm} {a c e : Expr} {es : List Expr} {ρ : Rho} {O : Out} {pos p2 p3 p4 p5 p6 ap : Pos} {x y : Str} {rest body : List Stmt} {fl : List Bool} {m : Nat} {i : Nat}
theorem dm_end (h : DSs X Γ rest ρ O) : DM X Γ rest ρ i fl m O := fun σ B H D t eo => h σ B H D t.so eo
theorem dm_app (k : Nat) {j} (hk : fl[k]? = some true := by rfl) (hm : m + 1 < sizeLine := by decide) (hN : X.N[i]? = some x := by rfl) (hv : Vis X.env.scope x := by first | exact Or.inl rfl | exact Or.inr (Or.inl rfl) | exact Or.inr (Or.inr rfl)) (hd : (x == ("__debug__" : Str)) = false := by decide)
    (hcd : (x == ("__classdict__" : Str)) = false := by decide)
    (hs0 : swapsWith (.Call (.Attribute (.Subscript (.Name x p2) (.Constant (.int (k : Nat)) j p3) p4) "append" ap) [a] [] p5) none pos.line X.env = pure false := by rfl)
    (hbase : attributeBase (.Subscript (.Name x p2) (.Constant (.int (k : Nat)) j p3) p4) "append" X.env (eval (.Subscript (.Name x p2) (.Constant (.int (k : Nat)) j p3) p4) X.env) = eval (.Subscript (.Name x p2) (.Constant (.int (k : Nat)) j p3) p4) X.env := by rfl)
    (hfew : ((backTo p5 (starEach (a :: []) X.env)).all (fun x => !x.1) && (backToKw p5 (keywordEach [] X.env)).all (fun x => x.1.isSome)
      && decide ((a :: ([] : List Expr)).length + ([] : List Keyword).length + (if ([] : List Keyword).isEmpty then 0 else 1) < 30)) = true := by rfl)
    (hline : (ap.endLine == p5.line) = true := by rfl) (hs : starEach (a :: []) X.env = (false, eval a X.env) :: starEach [] X.env := by rfl) (hplain : (backTo p5 (starEach [] X.env)).any (·.1) = false := by rfl)
    (h : DE X a ρ fun r ρ1 => ρ1 = ρ ∧ DM X Γ rest ρ i fl (m + 1) O) : DM X Γ (.Expr (.Call (.Attribute (.Subscript (.Name x p2) (.Constant (.int (k : Nat)) j p3) p4) "append" ap) [a] [] p5) pos :: rest) ρ i fl m O := fun σ B H D t eo => by
  obtain ⟨T, vs, e1, e2, e3, hf⟩ := t.ex
  obtain ⟨p, ws, f1, f2, f3, f4, f5, f6⟩ := hf k hk
  refine s_cons (s_expr hs0 (e_bm PySem.F.plainAttrs_list PySem.F.slot_list_append PySem.F.type_list_append mt_append (h := ?_) hbase hfew hline hs hplain))
  refine e_ixT (h := ⟨_, pe_var hN hv hd hcd, _, e1, e_int ⟨T, vs, _, .ref p, rfl, rfl, SqT.of e2, atI_nat f1, tyL (SqL.of f2), ?_⟩⟩)
  refine Lw.a_cons hs (h σ B H _ t.so.st fun r ρ1 w B1 H1 ⟨er, q⟩ go rr => ?_)
  subst er
  have g1 : H1 p = some (.lst ws) := go.g.h p _ f5 f2
  have g2 : H1 T = some (.tup vs) := go.g.h T _ e3 e2
  have b1 : B1 p = none := go.g.f p f3 (by rw [f2]; exact fun z => nomatch z)
  have so1 := t.so.go go
  have hTp : T ≠ p := fun z => by rw [z, g1] at g2; cases g2
  refine Lw.a_nil ⟨p, ws, w, rfl, rfl, g1, by omega, ?_⟩
  have st2 : St X.K ρ1 σ B1 (upd H1 p (.lst (ws ++ [w]))) := so1.st.upd b1 f5
  have so2 : SO X.K Γ ρ1 σ B1 (upd H1 p (.lst (ws ++ [w]))) := by
    refine ⟨st2, ⟨so1.g.b, st2.k, fun q o nm hq => ?_, fun q hq => ?_, so1.g.f⟩, so1.f, so1.o⟩
    · rw [upd_ne (fun z => by rw [z, f4] at hq; cases hq)]
      exact so1.g.h q o nm hq
    · by_cases z : q = p
      · rw [z, upd_same]; exact fun z => nomatch z
      · rw [upd_ne z]; exact so1.g.n q hq
  refine q σ B1 _ D ⟨so2, t.no, T, vs, e1, by rw [upd_ne hTp]; exact g2, e3, fun k' hk' => ?_⟩ eo
  obtain ⟨p', ws', h1, h2, h3, h4, h5, h6⟩ := hf k' hk'
  by_cases z : p' = p
  · subst z
    exact ⟨p', ws ++ [w], h1, upd_same, b1, h4, h5, by rw [List.length_append]; show ws.length + 1 ≤ m + 1; omega⟩
  · exact ⟨p', ws', h1, by rw [upd_ne z]; exact go.g.h p' _ h5 h2, go.g.f p' h3 (by rw [h2]; exact fun z => nomatch z), h4, h5, by omega⟩
theorem ds_told (i : Nat) (m : Nat) (hN : X.N.Nodup) (hi : X.N[i]? = some x := by rfl) (hx : Loc X.env.scope x := by first | exact Or.inl rfl | exact Or.inr rfl) (hs : swapsWith e (some (.Name x p2)) pos.line X.env = pure false := by rfl)
    (hf : X.fn x = true ∨ X.env.scope.names.lookup x = some .local := by first | exact .inl rfl | exact .inr rfl | assumption) (hli : i < ρ.length := by decide)
    (hfl : ∀ (j : Nat) (s : Sl), j ≠ i → ρ[j]? = some s → s.own = true → Flat s)
    (h : DE X e ρ fun r ρ1 => ∃ xs, r = .nt xs ∧ ρ1 = ρ ∧ (∀ ys, (PyData.list ys, true) ∈ xs → ys.length ≤ m) ∧
      DT X c (ρ.set i (.d (.tuple (xs.map Prod.fst)))) fun k ρ2 => if k = true then DSs X Γ body ρ2 { O with nx := fun _ => False } else ρ2 = ρ.set i (.d (.tuple (xs.map Prod.fst))) ∧ DM X Γ rest (ρ.set i .no) i (xs.map Prod.snd) m O) :
    DSs X Γ (.Assign [.Name x p2] e pos :: .If c body [] p3 :: rest) ρ O := fun σ B H D so eo => by
  refine s_cons (s_set i hN hi hx hs hf (h σ B H _ so.st fun r ρ1 v B1 H1 ⟨xs, er, e0, hm, q⟩ go rr => ?_))
  subst er e0
  obtain ⟨dd, T, vs, e1, e2, e3⟩ := rr
  have so1 : SO X.K Γ (ρ1.set i (.d (.tuple (xs.map Prod.fst)))) (σ.set i (some v)) B1 H1 := so.put go (r := .d (.tuple (xs.map Prod.fst))) dd rfl
  refine s_cons (s_if (q _ B1 H1 _ so1.st fun k ρ2 B2 H2 q2 go2 => ?_))
  cases k with
  | true => rw [if_pos rfl] at q2 ⊢; exact q2 _ B2 H2 _ (so1.go go2) ⟨fun ρ' σ' B' H' z _ => z.elim, eo.rt, eo.bk, eo.ct⟩
  | false =>
    rw [if_neg (by decide)] at q2 ⊢
    obtain ⟨e0, q3⟩ := q2
    subst e0
    refine s_nil ?_
    have so2 := so1.go go2
    have sl : σ.length = ρ1.length := so.st.l
    have hn : ∀ (j : Nat) (s : Sl), (ρ1.set i .no)[j]? = some s → (j = i ∧ s = .no) ∨ (j ≠ i ∧ ρ1[j]? = some s) := fun j s hj => by
      by_cases z : i = j
      · subst z
        rw [List.getElem?_set_self hli] at hj
        exact .inl ⟨rfl, (Option.some.inj hj).symm⟩
      · rw [List.getElem?_set_ne z] at hj
        exact .inr ⟨fun y => z y.symm, hj⟩
    have st2 : St X.K (ρ1.set i .no) (σ.set i (some v)) B H2 := by
      refine ⟨(go.g.b.trans go2.g.b).trans go2.st.k, by rw [List.length_set, List.length_set]; exact sl, fun j s hj => ?_, fun j k s t p h1 h2 o1 o2 g1 g2 => ?_⟩
      · rcases hn j s hj with ⟨rfl, rfl⟩ | ⟨z, hj'⟩
        · exact ⟨some v, by rw [List.getElem?_set_self (by omega)], trivial⟩
        · obtain ⟨o, f1, rs⟩ := so.st.s j s hj'
          refine ⟨o, by rw [List.getElem?_set_ne (fun y => z y.symm)]; exact f1, ?_⟩
          by_cases c : s.own = true
          · obtain ⟨p, u0, g1, g2, g3, g4⟩ := Rs.get c rs
            obtain ⟨o', f1', rs'⟩ := go2.st.s j s (by rw [List.getElem?_set_ne (fun y => z y.symm)]; exact hj')
            rw [List.getElem?_set_ne (fun y => z y.symm), f1] at f1'
            cases f1'
            obtain ⟨p', u, k1, k2, k3, k4⟩ := Rs.get c rs'
            rw [g1] at k1
            cases k1
            exact Rs.put c ⟨p, u, g1, k2, g3, hfl j s z hj' c _ _ _ _ k4⟩
          · cases s with
            | no => trivial
            | d x => exact rs
            | v w => exact rs
            | al i => exact rs
            | ol _ => exact absurd rfl c
            | od _ => exact absurd rfl c
            | ob _ => exact absurd rfl c
            | lo _ => exact absurd rfl c
            | pl _ => exact absurd rfl c
            | kn F => exact rs
            | nt _ => exact rs
      · rcases hn j s h1 with ⟨rfl, rfl⟩ | ⟨z1, h1'⟩
        · cases o1
        · rcases hn k t h2 with ⟨rfl, rfl⟩ | ⟨z2, h2'⟩
          · cases o2
          · rw [List.getElem?_set_ne (fun y => z1 y.symm)] at g1
            rw [List.getElem?_set_ne (fun y => z2 y.symm)] at g2
            exact so.st.u j k s t p h1' h2' o1 o2 g1 g2
    have so3 : SO X.K Γ (ρ1.set i .no) (σ.set i (some v)) B H2 := by
      refine ⟨st2, ⟨so.g.b, st2.k, so2.g.h, so2.g.n, so.g.f⟩, so.f, fun j s p h1 h2 h3 => ?_⟩
      rcases hn j s h1 with ⟨rfl, rfl⟩ | ⟨z1, h1'⟩
      · cases h2
      · rw [List.getElem?_set_ne (fun y => z1 y.symm)] at h3
        exact so.o j s p h1' h2 h3
    have now : ∀ p, Ow (ρ1.set i .no) (σ.set i (some v)) p → Ow ρ1 σ p ∧ Ow (ρ1.set i (.d (.tuple (xs.map Prod.fst)))) (σ.set i (some v)) p := fun p ⟨j, s, h1, h2, h3⟩ => by
      rcases hn j s h1 with ⟨rfl, rfl⟩ | ⟨z1, h1'⟩
      · cases h2
      · refine ⟨⟨j, s, h1', h2, ?_⟩, j, s, ?_, h2, h3⟩
        · rw [List.getElem?_set_ne (fun y => z1 y.symm)] at h3
          exact h3
        · rw [List.getElem?_set_ne (fun y => z1 y.symm)]
          exact h1'
    subst e1
    refine q3 _ B H2 _ ⟨so3, by rw [List.getElem?_set_self hli], T, vs, by rw [List.getElem?_set_self (by omega)], go2.st.k T _ (go2.g.b T _ e2), fun z => ?_, fun k hk => ?_⟩ eo
    · have := (so1.st.own (now T z).2).1
      rw [e2] at this
      cases this
    · rw [List.getElem?_map] at hk
      cases hx : xs[k]? with
      | none => rw [hx] at hk; cases hk
      | some xb =>
        obtain ⟨x, b⟩ := xb
        rw [hx] at hk
        cases hk
        obtain ⟨p, ws, f1, f2, f3, ys, f4, f5⟩ := e3 k x hx
        subst f4
        refine ⟨p, ws, f1, go2.st.k p _ (go2.g.b p _ f3), none_of_ex so.st.k f2, so.g.free f2, fun z => (so.st.own (now p z).1).2 f2, ?_⟩
        rw [f5]
        exact hm ys (List.mem_of_getElem? hx)
end
end Dw
namespace Dw
open PySem PySem.Spec L2 Evl Lw
/-! ### arguments in another sequence -/
def pick (is : List Nat) {α : Type} (xs : List α) : List α := is.filterMap fun i => xs[i]?
theorem vals_at : ∀ {vs : List V} {us : List Value}, Vals vs us → ∀ i : Nat, (∃ v u, vs[i]? = some v ∧ us[i]? = some u ∧ RelV v u) ∨ (vs[i]? = none ∧ us[i]? = none)
  | _, _, .nil, i => .inr ⟨rfl, rfl⟩
  | _, _, .cons h t, 0 => .inl ⟨_, _, rfl, rfl, h⟩
  | _, _, .cons h t, i + 1 => vals_at t i
theorem vals_pick (is : List Nat) {vs : List V} {us : List Value} (h : Vals vs us) : Vals (pick is vs) (pick is us) := by
  unfold pick
  induction is with
  | nil => exact .nil
  | cons i is ih =>
    rw [List.filterMap_cons, List.filterMap_cons]
    rcases vals_at h i with ⟨v, u, e1, e2, e3⟩ | ⟨e1, e2⟩
    · rw [e1, e2]
      exact .cons e3 ih
    · rw [e1, e2]
      exact ih
theorem dpA_pick (is : List Nat) {K : PySem.W.Frag} {B : Hp} {vs : List V} {xs : List PyData} (h : DpAll K B vs xs) : DpAll K B (pick is vs) (pick is xs) := by
  unfold pick
  induction is with
  | nil => exact .nil
  | cons i is ih =>
    rw [List.filterMap_cons, List.filterMap_cons]
    cases q : xs[i]? with
    | none =>
      have : vs[i]? = none := by
        rw [List.getElem?_eq_none_iff] at q ⊢
        rw [dpAll_len h]; exact q
      rw [this]
      exact ih
    | some x =>
      obtain ⟨v, e1, e2⟩ := dpA_at h q
      rw [e1]
      exact .cons e2 ih
end Dw
namespace Dw
open PySem PySem.Spec L2 Evl Lw
/-! ### len(set(ns)) of any ints -/
theorem met_full (f : Nat → Int) : ∀ n, (PyProof.Rows.firstMet f n).length = n → ((List.range n).map f).Nodup
  | 0, _ => by simp
  | n + 1, h => by
    have l1 := PyProof.Rows.firstMet_length_le f n
    rw [PyProof.Rows.firstMet_succ] at h
    unfold PyProof.Rows.step_dedup at h
    split at h
    · omega
    · rename_i c
      rw [List.length_append, List.length_singleton] at h
      have ih := met_full f n (by omega)
      rw [PyProof.Rows.firstMet_any] at c
      rw [List.range_succ, List.map_append, List.nodup_append]
      refine ⟨ih, by simp, fun a ha b hb e => c ?_⟩
      rw [List.map_cons, List.map_nil, List.mem_singleton] at hb
      rw [List.any_eq_true]
      exact ⟨a, ha, by rw [e, hb]; exact beq_self_eq_true _⟩
theorem getD_range (ns : List Int) : ((List.range ns.length).map fun i => ns.getD i 0) = ns := by
  refine List.ext_getElem? fun i => ?_
  rw [List.getElem?_map]
  by_cases c : i < ns.length
  · rw [List.getElem?_range c, List.getElem?_eq_getElem c]
    simp [List.getD_eq_getElem?_getD, List.getElem?_eq_getElem c]
  · rw [List.getElem?_eq_none (by rw [List.length_range]; omega), List.getElem?_eq_none (by omega)]
    rfl
theorem met_iff (ns : List Int) : (PyProof.Rows.firstMet (fun i => ns.getD i 0) ns.length).length = ns.length ↔ ns.Nodup := by
  constructor
  · intro h
    have := met_full _ _ h
    rwa [getD_range] at this
  · intro h
    rw [RZ.firstMet_nodup h ns.length (Nat.le_refl _), List.take_length]
section
variable {X : Cx} {Γ : Gm} {a b c e o : Expr} {es : List Expr} {ρ : Rho} {O : Out} {pos p2 p3 q p : Pos} {x y : Str} {P : Sl → Rho → Prop} {PT PB : Bool → Rho → Prop}
open PyProof.Rows in
theorem lenSet_run (hl : X.mg "len" = none) (hs : X.mg "set" = none) (gl : Gl X "len" := by rfl) (gs : Gl X "set" := by rfl) (calm : X.calm = true := by rfl) (na : starEach [a] X.env = (false, eval a X.env) :: starEach [] X.env := by rfl)
    {σ : L2.St} {H : Hp} {Q : VK} (h : WE X a σ H fun v H1 => ∃ (l : Addr) (ns : List Int), v = .ref l ∧ SqL X.K H1 l (ns.map V.int) ∧ ns.length ≤ 4000 ∧ Q (.int (PyProof.Rows.firstMet (fun i => ns.getD i 0) ns.length).length) H1) :
    WE X (.Call (.Name "len" p) [.Call (.Name "set" p2) [a] [] q] [] pos) σ H Q := by
  refine ⟨fun σ H Q => WE X a σ H fun v H1 => ∃ (l : Addr) (ns : List Int), v = .ref l ∧ SqL X.K H1 l (ns.map V.int) ∧ ns.length ≤ 4000 ∧ Q (.int (PyProof.Rows.firstMet (fun i => ns.getD i 0) ns.length).length) H1, ⟨fun pins st σ H Q inv hh => ?_⟩, h⟩
  refine Call_ (ld_blt inv gl hl boot_len (PyProof.Rows.callWith_builtin1 (PyProof.Rows.args_cons (Call_ (ld_blt inv gs hs boot_set (PyProof.Rows.callWith_type1 (PyProof.Rows.args_cons (thn (WE.pe.run pins st σ H _ inv hh) fun w s2 ⟨v, H2, inv2, rv, hv⟩ => PyProof.Rows.args_nil ?_) na) na rfl))) rfl) rfl rfl))
  rcases hv with ⟨l, ns, rfl, sq, short, post⟩
  cases rv
  rcases inv2.list sq with ⟨its, vals, place, _⟩
  have size : its.toArray.size = ns.length := by rw [List.size_toArray, ← vals.length, List.length_map]
  have few := PyProof.Rows.firstMet_length_le (fun i => ns.getD i 0) ns.length
  refine call_set_list (inv2.ok.hd calm) place.isList (by simpa using RZ.intsAre_vals vals) (by rw [size]; unfold scanBound; omega) fun heap toks made kept => PyProof.Rows.args_nil ?_
  rw [size] at made
  rcases made with ⟨ob, cells, place2, tb, got, exact_, data, _, _, _, fits, count⟩
  have inv3 : Inv X pins σ H2 { s2 with heap := heap, toks := toks } := inv2.kept fun b o e => kept b o (Heap.lt_size e) e
  refine call_len_set got exact_ data fits (by rw [count]; omega) ⟨.int _, H2, inv3.tok _, ⟨_, by rw [count]⟩, post⟩
/-- .. -/
theorem d_lenSetG (hl : X.mg "len" = none) (hs : X.mg "set" = none) (gl : Gl X "len" := by rfl) (gs : Gl X "set" := by rfl) (calm : X.calm = true := by rfl) (na : starEach [a] X.env = (false, eval a X.env) :: starEach [] X.env := by rfl)
    (h : DE X a ρ fun r ρ1 => ∃ ns : List Int, lsOf ρ1 r = some (iL ns) ∧ ns.length ≤ 4000 ∧ ∀ n : Nat, (n = ns.length ↔ ns.Nodup) → P (.d (.int (n : Nat))) ρ1) : DE X (.Call (.Name "len" p2) [.Call (.Name "set" p3) [a] [] q] [] pos) ρ P :=
  fun σ B H Q st k => lenSet_run hl hs gl gs calm na (h σ B H _ st fun r ρ1 v B1 H1 ⟨ns, e, hz, q⟩ go rr => by
    obtain ⟨p, vs, e1, s1, s2⟩ := rr_ls go rr e
    exact ⟨p, ns, e1, by rw [← dpA_eqints s2]; exact s1, hz, k _ _ _ B1 H1 (q _ (met_iff ns)) go (.int _)⟩)
/-! ### a list as a test -/
theorem dt_truL (h : DE X e ρ fun r ρ1 => ∃ xs, lsOf ρ1 r = some xs ∧ PT (!xs.isEmpty) ρ1) (he : ∀ whole, isTrue e X.env whole = (do let v ← whole; standAt e.pos; holding [v] (truthy v)) := by intro _; rfl) : DT X e ρ PT :=
  fun σ B H Q st k => t_tru (h σ B H _ st fun r ρ1 v B1 H1 ⟨xs, ex, q⟩ go rr => by
    obtain ⟨p, vs, rfl, s1, s2⟩ := rr_ls go rr ex
    refine ⟨!xs.isEmpty, .inl ⟨vs, s1, ?_⟩, k _ _ B1 H1 q go⟩
    cases s2 <;> rfl) he
/-- not xs, as a value -/
theorem d_notL (h : DE X a ρ fun r ρ1 => ∃ xs, lsOf ρ1 r = some xs ∧ P (.d (.bool xs.isEmpty)) ρ1) : DE X (.UnaryOp .Not a pos) ρ P :=
  fun σ B H Q st k => ⟨_, pe_notT WE.pe, h σ B H _ st fun r ρ1 v B1 H1 ⟨xs, ex, q⟩ go rr => by
    obtain ⟨p, vs, rfl, s1, s2⟩ := rr_ls go rr ex
    refine ⟨!xs.isEmpty, .inl ⟨vs, s1, by cases s2 <;> rfl⟩, ?_⟩
    rw [Bool.not_not]
    exact k _ _ _ B1 H1 q go (.bl _)⟩
/-! ### ==, != of lists, whoever made them -/
theorem dc_eqL (hu : X.A.units + 64 < cLine) (h : DE X a ρ fun r ρ1 => DE X b ρ1 fun s ρ2 => ∃ xs ys, lsOf ρ2 r = some xs ∧ lsOf ρ2 s = some ys ∧ okD (.list xs) = true ∧ okD (.list ys) = true ∧ PB (PyData.eqv (.list xs) (.list ys)) ρ2) : DC X a .Eq b ρ PB :=
  ⟨_, op_eqD hu, nomark _, fun σ B H Q st k => two h st fun r s ρ2 v w B2 H2 ⟨xs, ys, e1, e2, s1, s2, q⟩ go r1 r2 => by
    obtain ⟨p, vs, rfl, f1, f2⟩ := rr_ls go r1 e1
    obtain ⟨p2, ws, rfl, g1, g2⟩ := rr_ls go r2 e2
    exact ⟨_, _, .lst f1 (DpAll.mono go.st.k f2), .lst g1 (DpAll.mono go.st.k g2), s1, s2, k _ _ B2 H2 q go⟩⟩
theorem dc_neL (hu : X.A.units + 64 < cLine) (h : DE X a ρ fun r ρ1 => DE X b ρ1 fun s ρ2 => ∃ xs ys, lsOf ρ2 r = some xs ∧ lsOf ρ2 s = some ys ∧ okD (.list xs) = true ∧ okD (.list ys) = true ∧ PB (!PyData.eqv (.list xs) (.list ys)) ρ2) : DC X a .NotEq b ρ PB :=
  ⟨_, op_neD hu, nomark _, fun σ B H Q st k => two h st fun r s ρ2 v w B2 H2 ⟨xs, ys, e1, e2, s1, s2, q⟩ go r1 r2 => by
    obtain ⟨p, vs, rfl, f1, f2⟩ := rr_ls go r1 e1
    obtain ⟨p2, ws, rfl, g1, g2⟩ := rr_ls go r2 e2
    exact ⟨_, _, .lst f1 (DpAll.mono go.st.k f2), .lst g1 (DpAll.mono go.st.k g2), s1, s2, k _ _ B2 H2 q go⟩⟩
end
end Dw
namespace Dw
open PySem PySem.Spec L2 Evl Lw
section
variable {X : Cx} {Γ : Gm} {a b c e o : Expr} {es : List Expr} {ρ : Rho} {O : Out} {pos p2 p3 q p : Pos} {x y : Str} {P : Sl → Rho → Prop} {PT PB : Bool → Rho → Prop}
/-- a small number from 0 on times any from 0 on -/
theorem d_mulN (h : DE X a ρ fun r ρ1 => DE X b ρ1 fun s ρ2 => ∃ n m : Nat, r = .d (.int (n : Int)) ∧ s = .d (.int (m : Int)) ∧ n ≤ 4294967296 ∧ P (.d (.int ((n * m : Nat) : Int))) ρ2) : DE X (.BinOp a .Mult b pos) ρ P :=
  fun σ B H Q st k => e_bin op_mulN (two h st fun r s ρ2 v w B2 H2 ⟨n, m, e1, e2, c, q⟩ go r1 r2 => by
    subst e1 e2
    exact ⟨n, m, rr_int r1, rr_int r2, c, k _ _ _ B2 H2 q go (.int _)⟩)
/-- isinstance(truth, bool) -/
theorem d_isiB (mi : X.mg "isinstance" = none) (mb : X.mg "bool" = none) (hg : Gl X "isinstance" := by rfl) (hg2 : Gl X "bool" := by rfl) (he : starEach (e :: [.Name "bool" p3]) X.env = (false, eval e X.env) :: starEach [.Name "bool" p3] X.env := by rfl)
    (he2 : starEach (.Name "bool" p3 :: []) X.env = (false, eval (.Name "bool" p3) X.env) :: starEach [] X.env := by rfl) (hpl : (backTo pos (starEach [.Name "bool" p3] X.env)).any (·.1) = false := by rfl)
    (h : DE X e ρ fun r ρ1 => ∃ b, r = .d (.bool b) ∧ P (.d (.bool true)) ρ1) : DE X (.Call (.Name "isinstance" p2) [e, .Name "bool" p3] [] pos) ρ P :=
  fun σ B H Q st k => e_blt call_isi mi (by decide +kernel) (Lw.a_cons he (h σ B H _ st fun r ρ1 v B1 H1 ⟨b, er, q⟩ go rr => by
    subst er
    have := rr_bool rr
    subst this
    refine Lw.a_cons he2 (e_bltn mb bnm_bool (v := .ty "bool") rfl (hg := hg2) (q := Lw.a_nil ?_))
    exact ⟨_, _, .type "bool", .type "bool", true, rfl, .ty _, .base (.bl _), kit_ty (by decide +kernel), k _ _ _ B1 H1 q go (.bl _)⟩)) hg (by decide) (by decide) he hpl
end
end Dw
namespace Dw
open PySem L2 Evl Lw
/-! ### is None, is True -/
def isNn : PyData → Bool
  | .none => true
  | _ => false
theorem dp_isn {K : PySem.W.Frag} {B : Hp} {v : V} {x : PyData} (h : Dp K B v x) : decide (v = .non) = isNn x := by
  cases h <;> simp [isNn]
section
variable {X : Cx} {a b : Expr} {ρ : Rho} {PB : Bool → Rho → Prop}
theorem dc_isN (h : DE X a ρ fun r ρ1 => ∃ x, fz r = some x ∧ DE X b ρ1 fun s ρ2 => ∃ y, fz s = some y ∧ y = .none ∧ PB (isNn x) ρ2) (hm : behindInMarks .Is b = false := by first | exact nomark _ | rfl) : DC X a .Is b ρ PB :=
  ⟨_, op_isN1, hm, fun σ B H Q st k => twoD h st fun x y ρ2 v w B2 H2 ⟨ey, q⟩ go d1 d2 => by
    subst ey
    have e2 : w = .non := by cases d2; rfl
    refine ⟨e2, ?_⟩
    rw [dp_isn d1]
    exact k _ _ B2 H2 q go⟩
theorem dc_notN (h : DE X a ρ fun r ρ1 => ∃ x, fz r = some x ∧ DE X b ρ1 fun s ρ2 => ∃ y, fz s = some y ∧ y = .none ∧ PB (!isNn x) ρ2) (hm : behindInMarks .IsNot b = false := by first | exact nomark _ | rfl) : DC X a .IsNot b ρ PB :=
  ⟨_, op_notN1, hm, fun σ B H Q st k => twoD h st fun x y ρ2 v w B2 H2 ⟨ey, q⟩ go d1 d2 => by
    subst ey
    have e2 : w = .non := by cases d2; rfl
    refine ⟨e2, ?_⟩
    rw [dp_isn d1]
    exact k _ _ B2 H2 q go⟩
theorem dc_isB (h : DE X a ρ fun r ρ1 => DE X b ρ1 fun s ρ2 => ∃ i j, r = .d (.bool i) ∧ s = .d (.bool j) ∧ PB (i == j) ρ2) (hm : behindInMarks .Is b = false := by first | exact nomark _ | rfl) : DC X a .Is b ρ PB :=
  ⟨_, op_is_bl, hm, fun σ B H Q st k => two h st fun r s ρ2 v w B2 H2 ⟨i, j, e1, e2, q⟩ go r1 r2 => by
    subst e1 e2
    cases rr_bool r1
    cases rr_bool r2
    refine ⟨i, j, rfl, rfl, ?_⟩
    rw [show decide (i = j) = (i == j) by cases i <;> cases j <;> rfl]
    exact k _ _ B2 H2 q go⟩
theorem dc_isnB (h : DE X a ρ fun r ρ1 => DE X b ρ1 fun s ρ2 => ∃ i j, r = .d (.bool i) ∧ s = .d (.bool j) ∧ PB (!(i == j)) ρ2) (hm : behindInMarks .IsNot b = false := by first | exact nomark _ | rfl) : DC X a .IsNot b ρ PB :=
  ⟨_, op_isnot_bl, hm, fun σ B H Q st k => two h st fun r s ρ2 v w B2 H2 ⟨i, j, e1, e2, q⟩ go r1 r2 => by
    subst e1 e2
    cases rr_bool r1
    cases rr_bool r2
    refine ⟨i, j, rfl, rfl, ?_⟩
    rw [show decide (i = j) = (i == j) by cases i <;> cases j <;> rfl]
    exact k _ _ B2 H2 q go⟩
end
end Dw
namespace Dw
open PySem L2 Evl Lw
/-! ### a newly made list, handed on as an own one -/
section
variable {K : PySem.W.Frag} {ρ ρ1 ρ2 : Rho} {σ : L2.St} {B H B1 H1 B2 H2 : Hp}
/-- what nobody's slot owns changes -/
theorem St.other (st : St K ρ σ B H) {M : Addr → Prop} {B' H' : Hp} (g : Gr M B H B' H') (hM : ∀ a, M a → ¬ Ow ρ σ a) : St K ρ σ B' H' := by
  refine ⟨g.k, st.l, fun i s h => ?_, st.u⟩
  obtain ⟨o, e, rs⟩ := st.s i s h
  refine ⟨o, e, ?_⟩
  by_cases c : s.own = true
  · obtain ⟨p, u, e1, e2, e3, e4⟩ := Rs.get c rs
    exact Rs.put c ⟨p, u, e1, g.h p u (fun z => hM p z ⟨i, s, h, c, by rw [e, e1]⟩) e2, g.f p e3 (by rw [e2]; exact fun z => nomatch z), Sh.mono g.b e4⟩
  · cases s with
    | no => trivial
    | d x => obtain ⟨v, e1, e2⟩ := rs; exact ⟨v, e1, Dp.mono g.b e2⟩
    | v w => exact rs
    | al i => exact rs
    | ol _ => exact absurd rfl c
    | od _ => exact absurd rfl c
    | ob _ => exact absurd rfl c
    | lo _ => exact absurd rfl c
    | pl _ => exact absurd rfl c
    | kn F => obtain ⟨v, e1, e2⟩ := rs; exact ⟨v, e1, F.m _ _ _ g.b e2⟩
    | nt _ => exact rs
end
section
variable {X : Cx} {e : Expr} {ρ : Rho} {pos p2 : Pos} {x : Str} {P : Sl → Rho → Prop}
theorem d_callT {c : ACon PyData} (cl : CalW X x (GC X.K (pcA c))) (mo : MonA c) (he : starEach (e :: []) X.env = (false, eval e X.env) :: starEach [] X.env := by rfl) (hpl : (backTo pos (starEach [] X.env)).any (·.1) = false := by rfl)
    (h : DE X e ρ fun r ρ1 => ∃ xs, r = .ol xs ∧ c (.pl xs) [] fun y _ => P (.d y) ρ1) : DE X (.Call (.Name x p2) [e] [] pos) ρ P := by
  intro σ B H Q st kk
  refine cl _ _ _ _ _ _ _ he hpl (Lw.a_cons he (h σ B H _ st fun r ρ1 v B1 H1 ⟨xs, er, hc⟩ go rr => Lw.a_nil ?_))
  subst er
  obtain ⟨p, u, rfl, h1, h2, h3, h4⟩ := rr
  have st1 : St X.K [.pl xs] ([V.ref p].map some) B1 H1 := by
    refine ⟨go.st.k, rfl, fun j s hj => ?_, fun i j s t a q1 q2 _ _ _ _ => ?_⟩
    · cases j with
      | zero => cases hj; exact ⟨_, rfl, p, u, rfl, h2, h3, h4⟩
      | succ j => cases hj
    · cases i with
      | zero =>
        cases j with
        | zero => rfl
        | succ j => cases q2
      | succ i => cases q1
  refine ⟨B1, [.pl xs], st1, .pl xs, [], rfl, rfl, mo _ _ _ _ (fun y s1 q v B' H' g2 rr2 => ?_) hc⟩
  have only : ∀ a, Ow [.pl xs] ([V.ref p].map some) a → a = p := fun a ⟨i, s, z1, z2, z3⟩ => by
    cases i with
    | zero => cases z3; rfl
    | succ i => cases z1
  have gr : Gr (Ow ρ σ) B H B' H' := ⟨go.g.b.trans g2.g.b, g2.g.k, fun a o m ha => g2.g.h a o (fun z => by have := only a z; subst this; rw [h1] at ha; cases ha) (go.g.h a o m ha), fun a z => g2.g.n a (go.g.n a z), fun a z1 z2 => g2.g.f a (go.g.f a z1 z2) (go.g.n a z2)⟩
  refine kk (.d y) ρ1 v B' H' q ⟨gr, go.w, go.st.other g2.g fun a z z2 => ?_, st⟩ rr2
  have := only a z
  subst this
  exact (st.own (ow_of go.w z2)).2 h1
end
end Dw
local macro_rules | `(tactic| walk_at "nm") => `(tactic| with_unfolding_all first
  | refine Lw.e_name 0 (q := ?_) | refine Lw.e_name 1 (q := ?_) | refine Lw.e_name 2 (q := ?_) | refine Lw.e_name 3 (q := ?_) | refine Lw.e_name 4 (q := ?_) | refine Lw.e_name 5 (q := ?_) | refine Lw.e_name 6 (q := ?_) | refine Lw.e_name 7 (q := ?_) | refine Lw.e_name 8 (q := ?_) | refine Lw.e_name 9 (q := ?_) | refine Lw.e_name 10 (q := ?_) | refine Lw.e_name 11 (q := ?_) | refine Lw.e_name 12 (q := ?_))
local macro_rules | `(tactic| walk_at "ii") => `(tactic| refine ⟨_, _, rfl, rfl, ?_⟩)
local macro_rules | `(tactic| walk_at "e") => `(tactic| first
  | walk_at "nm" | refine Lw.e_int ?_ | refine Lw.e_non ?_ | refine Lw.e_bl ?_ | refine Lw.e_str ?_
  | refine Lw.a_nil ?_ | refine Lw.a_cons (h := ?_) | refine Lw.k_nil ?_ | refine Lw.k_cons ?_
  | refine Lw.e_if ?_ | refine Lw.e_and ?_ | refine Lw.e_or ?_ | refine Lw.e_one ?_ | refine Lw.e_not ?_ | refine Lw.e_lst ?_ | refine Lw.e_tup ?_ | refine Lw.e_neg ?_)
local macro_rules | `(tactic| walk_at "E") => `(tactic| repeat walk_at "e")
local macro_rules | `(tactic| walk_at "dn") => `(tactic| with_unfolding_all first
  | refine Dw.d_nd 0 (q := ?_) | refine Dw.d_nd 1 (q := ?_) | refine Dw.d_nd 2 (q := ?_) | refine Dw.d_nd 3 (q := ?_) | refine Dw.d_nd 4 (q := ?_) | refine Dw.d_nd 5 (q := ?_) | refine Dw.d_nd 6 (q := ?_) | refine Dw.d_nd 7 (q := ?_) | refine Dw.d_nd 8 (q := ?_) | refine Dw.d_nd 9 (q := ?_) | refine Dw.d_nd 10 (q := ?_) | refine Dw.d_nd 11 (q := ?_) | refine Dw.d_nd 12 (q := ?_) | refine Dw.d_nd 13 (q := ?_) | refine Dw.d_nd 14 (q := ?_) | refine Dw.d_nd 15 (q := ?_))
local macro_rules | `(tactic| walk_at "do") => `(tactic| with_unfolding_all first
  | refine Dw.d_no 0 (q := ?_) | refine Dw.d_no 1 (q := ?_) | refine Dw.d_no 2 (q := ?_) | refine Dw.d_no 3 (q := ?_) | refine Dw.d_no 4 (q := ?_) | refine Dw.d_no 5 (q := ?_) | refine Dw.d_no 6 (q := ?_) | refine Dw.d_no 7 (q := ?_) | refine Dw.d_no 8 (q := ?_) | refine Dw.d_no 9 (q := ?_) | refine Dw.d_no 10 (q := ?_) | refine Dw.d_no 11 (q := ?_) | refine Dw.d_no 12 (q := ?_) | refine Dw.d_no 13 (q := ?_) | refine Dw.d_no 14 (q := ?_) | refine Dw.d_no 15 (q := ?_))
local macro_rules | `(tactic| walk_at "de") => `(tactic| first
  | refine Dw.d_int ?_ | refine Dw.d_non ?_ | refine Dw.d_bl ?_ | refine Dw.d_str ?_
  | refine Dw.da_nil ?_ | refine Dw.da_cons (h := ?_) | refine Dw.dk_nil ?_ | refine Dw.dk_cons ?_ | refine Dw.do_none ?_ | refine Dw.do_some ?_
  | walk_at "dn" | walk_at "do"
  | refine Dw.d_if ?_ | refine Dw.d_and ?_ | refine Dw.d_or ?_ | refine Dw.d_one ?_ | refine Dw.d_not ?_ | refine Dw.d_neg ?_ | refine Dw.d_lst ?_ | refine Dw.d_tup ?_)
local macro_rules | `(tactic| walk_at "D") => `(tactic| repeat walk_at "de")
local macro_rules | `(tactic| walk_at "ii") => `(tactic| refine ⟨_, _, rfl, rfl, ?_⟩)
local macro_rules | `(tactic| walk_at "L") => `(tactic| repeat first | walk_at "de" | refine ⟨_, rfl, Nat.le_of_ble_eq_true rfl, ?_⟩ | refine ⟨_, rfl, ?_⟩)
namespace K09
open PySem L2 Evl Lw
def top (i : Nat) : Stmt := PySem.Challenge.pw_listwindow_k09_forms_of_clicks_done.main.body.getD i (.Pass ⟨0, 0, 0, 0⟩)
abbrev s_cz : Stmt := top 5
abbrev s_ak : Stmt := top 6
abbrev s_ck : Stmt := top 7
abbrev s_co : Stmt := top 9
abbrev s_bc : Stmt := top 10
abbrev s_fo : Stmt := top 12
abbrev s_ib : Stmt := top 13
abbrev s_isf : Stmt := top 14
abbrev s_cf : Stmt := top 15
abbrev s_fd : Stmt := top 16
abbrev s_fd_ : Stmt := top 17
abbrev s_al : Stmt := top 18
abbrev s_fa : Stmt := top 19
abbrev s_op : Stmt := top 21
abbrev s_dr : Stmt := top 22
abbrev s_cl : Stmt := top 23
abbrev s_clk : Stmt := top 24
abbrev s_af : Stmt := top 25
abbrev s_ks : Stmt := top 26
abbrev s_ev : Stmt := top 27
abbrev s_sy : Stmt := top 28
abbrev s_bo : Stmt := top 29
abbrev s_ot : Stmt := top 30
abbrev s_ifr : Stmt := top 31
abbrev s_far : Stmt := top 32
abbrev s_man : Stmt := top 33
abbrev s_alr : Stmt := top 34
abbrev s_ri : Stmt := top 35
abbrev s_law : Stmt := top 36
end K09
namespace K09
open PySem L2 Evl Lw Dw
/-! ### clicks, keys and forms -/
abbrev Ky := Int × Int
abbrev Fm := List Ky × Bool
def ne (c : Int) (k : Ky) : Bool := !decide (k.1 = c)
/-- a click -/
def clk (K : List Ky) (c : Int) : List Ky := match K with
  | [] => [(c, 1)]
  | k :: K' => if k.1 = c then (c, -k.2) :: K' else (c, 1) :: K.filter (ne c)
def clkd (K : List Ky) (cs : List Int) : List Ky := cs.foldl clk K
def cols (K : List Ky) : List Int := K.map Prod.fst
structure Srt (K : List Ky) : Prop where
  nd : (cols K).Nodup
  sg : ∀ k ∈ K, k.2 = 1 ∨ k.2 = -1
  rg : ∀ k ∈ K, 0 ≤ k.1 ∧ k.1 < 1000
theorem filter_ne {K : List Ky} {c : Int} (h : c ∉ cols K) : K.filter (ne c) = K := by
  refine List.filter_eq_self.mpr fun k hk => ?_
  unfold ne
  simp only [Bool.not_eq_true', decide_eq_false_iff_not]
  intro e
  exact h (List.mem_map.mpr ⟨k, hk, e⟩)
theorem cols_filter {K : List Ky} {p : Ky → Bool} (h : (cols K).Nodup) : (cols (K.filter p)).Nodup := (List.filter_sublist.map Prod.fst).nodup h
theorem not_in_filter {K : List Ky} {c : Int} : c ∉ cols (K.filter (ne c)) := by
  intro h
  obtain ⟨k, hk, e⟩ := List.mem_map.mp h
  have := (List.mem_filter.mp hk).2
  unfold ne at this
  simp only [Bool.not_eq_true', decide_eq_false_iff_not] at this
  exact this e
theorem srt_clk {K : List Ky} {c : Int} (h : Srt K) (hc : 0 ≤ c ∧ c < 1000) : Srt (clk K c) := by
  unfold clk
  cases K with
  | nil => exact ⟨by simp [cols], by simp, by simpa using hc⟩
  | cons k K' =>
    simp only
    have hn : k.1 ∉ cols K' ∧ (cols K').Nodup := List.nodup_cons.mp h.nd
    by_cases e : k.1 = c
    · rw [if_pos e]
      refine ⟨List.nodup_cons.mpr ⟨e ▸ hn.1, hn.2⟩, ?_, ?_⟩
      · intro x hx
        rcases List.mem_cons.mp hx with rfl | hx
        · have := h.sg k List.mem_cons_self
          show -k.2 = 1 ∨ -k.2 = -1
          omega
        · exact h.sg x (List.mem_cons_of_mem _ hx)
      · intro x hx
        rcases List.mem_cons.mp hx with rfl | hx
        · exact hc
        · exact h.rg x (List.mem_cons_of_mem _ hx)
    · rw [if_neg e]
      refine ⟨List.nodup_cons.mpr ⟨not_in_filter, cols_filter h.nd⟩, ?_, ?_⟩
      · intro x hx
        rcases List.mem_cons.mp hx with rfl | hx
        · exact .inl rfl
        · exact h.sg x (List.mem_filter.mp hx).1
      · intro x hx
        rcases List.mem_cons.mp hx with rfl | hx
        · exact hc
        · exact h.rg x (List.mem_filter.mp hx).1
theorem srt_clkd {K : List Ky} (h : Srt K) : ∀ {cs : List Int}, (∀ c ∈ cs, 0 ≤ c ∧ c < 1000) → Srt (clkd K cs) := by
  intro cs
  unfold clkd
  induction cs generalizing K with
  | nil => exact fun _ => h
  | cons c cs ih => exact fun hc => ih (srt_clk h (hc c List.mem_cons_self)) fun d hd => hc d (List.mem_cons_of_mem _ hd)
theorem srt_nil : Srt [] := ⟨by simp [cols], by simp, by simp⟩
/-- whether the first column is not clicked again behind another one -/
def bnd : List Int → Bool
  | [] => false
  | c :: cs => !(cs.dropWhile (· == c)).contains c
def fm (cs : List Int) : Fm := (clkd [] cs, bnd cs)
def lastC (A : List Ky) : Int := (A.getLast?.getD (0, 0)).1
/-- the last key's sign changed -/
def flp (A : List Ky) : List Ky := match A.getLast? with
  | none => []
  | some k => A.dropLast ++ [(k.1, -k.2)]
def fmd (F : Fm) (K : List Ky) : List Ky := (if (F.2 && decide (K.head? = some (lastC F.1, 1))) = true then flp F.1 else F.1) ++ K.filter fun k => !decide (k.1 ∈ cols F.1)
/-- a click more -/
def stp (F : Fm) (c : Int) : Fm := match F.1 with
  | [] => ([(c, 1)], true)
  | k :: A => if k.1 = c then ((c, -k.2) :: A, F.2) else ((c, 1) :: F.1.filter (ne c), F.2 && !decide (lastC F.1 = c))
theorem flp_cons {k : Ky} {A : List Ky} (h : A ≠ []) : flp (k :: A) = k :: flp A := by
  unfold flp
  rw [List.getLast?_cons, List.dropLast_cons_of_ne_nil h]
  cases q : A.getLast? with
  | none => rw [List.getLast?_eq_none_iff] at q; exact absurd q h
  | some x => rfl
theorem lastC_cons {k : Ky} {A : List Ky} (h : A ≠ []) : lastC (k :: A) = lastC A := by
  unfold lastC
  rw [List.getLast?_cons]
  cases q : A.getLast? with
  | none => rw [List.getLast?_eq_none_iff] at q; exact absurd q h
  | some x => rfl
theorem flp_ne {A : List Ky} (h : A ≠ []) : flp A ≠ [] := by
  unfold flp
  cases q : A.getLast? with
  | none => rw [List.getLast?_eq_none_iff] at q; exact absurd q h
  | some x => simp
/-- the last key taken out -/
theorem flp_filter {c : Int} : ∀ {A : List Ky}, A ≠ [] → (flp A).filter (ne c) = if lastC A = c then A.filter (ne c) else flp (A.filter (ne c))
  | [], h => absurd rfl h
  | [k], _ => by
    show [((k.1, -k.2) : Ky)].filter (ne c) = _
    unfold ne lastC
    by_cases e : k.1 = c
    · simp [e]
    · simp [e]
      rfl
  | k :: k2 :: A, _ => by
    have ih := flp_filter (c := c) (A := k2 :: A) (by simp)
    have e0 : (k :: k2 :: A).filter (ne c) = if ne c k = true then k :: (k2 :: A).filter (ne c) else (k2 :: A).filter (ne c) := List.filter_cons
    rw [flp_cons (by simp), lastC_cons (by simp), List.filter_cons, e0, ih]
    by_cases e : lastC (k2 :: A) = c
    · simp only [if_pos e]
    · simp only [if_neg e]
      by_cases e2 : ne c k = true
      · simp only [if_pos e2]
        rw [flp_cons]
        intro z
        -- the last key stays
        have : ∀ {A : List Ky}, A ≠ [] → lastC A ≠ c → A.filter (ne c) ≠ [] := by
          intro A h1 h2 h3
          cases q : A.getLast? with
          | none => rw [List.getLast?_eq_none_iff] at q; exact absurd q h1
          | some x =>
            have hm := List.mem_of_getLast? q
            rw [List.filter_eq_nil_iff] at h3
            have := h3 x hm
            unfold ne at this
            unfold lastC at h2
            rw [q] at h2
            simp at this
            exact h2 this
        exact this (by simp) e z
      · simp only [if_neg e2]
theorem cols_flp : ∀ {A : List Ky}, cols (flp A) = cols A
  | [] => rfl
  | [k] => rfl
  | k :: k2 :: A => by rw [flp_cons (by simp)]; show k.1 :: cols (flp (k2 :: A)) = _; rw [cols_flp]; rfl
theorem lastC_filter {c : Int} : ∀ {A : List Ky}, A ≠ [] → lastC A ≠ c → lastC (A.filter (ne c)) = lastC A ∧ A.filter (ne c) ≠ []
  | [], h, _ => absurd rfl h
  | [k], _, h2 => by
    have : ne c k = true := by unfold ne; unfold lastC at h2; simpa using h2
    rw [List.filter_cons, if_pos this]
    exact ⟨rfl, by simp⟩
  | k :: k2 :: A, _, h2 => by
    rw [lastC_cons (by simp)] at h2 ⊢
    obtain ⟨i1, i2⟩ := lastC_filter (c := c) (A := k2 :: A) (by simp) h2
    rw [List.filter_cons]
    by_cases e2 : ne c k = true
    · rw [if_pos e2, lastC_cons i2]
      exact ⟨i1, by simp⟩
    · rw [if_neg e2]
      exact ⟨i1, i2⟩
end K09
namespace K09
open PySem L2 Evl Lw Dw
theorem filter_all {K : List Ky} : (K.filter fun k => !decide (k.1 ∈ cols [])) = K := List.filter_eq_self.mpr fun k _ => by simp [cols]
theorem fmd_stp {F : Fm} {K : List Ky} {c : Int} (h0 : F.1 = [] → F.2 = false) (hK : Srt K) : fmd (stp F c) K = clk (fmd F K) c := by
  obtain ⟨A, b⟩ := F
  cases A with
  | nil =>
    cases h0 rfl
    have e1 : fmd ([], false) K = K := by
      unfold fmd
      simp only [Bool.false_and]
      rw [if_neg (by decide), filter_all]
      rfl
    rw [e1]
    show (if (true && decide (K.head? = some (lastC [(c, 1)], 1))) = true then flp [(c, 1)] else [(c, 1)]) ++ K.filter (fun k => !decide (k.1 ∈ cols [(c, 1)])) = _
    have e2 : (fun k : Ky => !decide (k.1 ∈ cols [(c, 1)])) = ne c := funext fun k => by unfold ne cols; simp
    rw [e2]
    cases K with
    | nil => rfl
    | cons k K' =>
      have hn : k.1 ∉ cols K' ∧ (cols K').Nodup := List.nodup_cons.mp hK.nd
      unfold clk
      simp only
      by_cases e : k.1 = c
      · have hne : ne c k = false := by unfold ne; simp [e]
        have ef : (k :: K').filter (ne c) = K' := by rw [List.filter_cons, if_neg (by rw [hne]; decide), filter_ne (e ▸ hn.1)]
        rw [if_pos e, ef]
        have hs := hK.sg k List.mem_cons_self
        by_cases e3 : k.2 = 1
        · have : k = (c, 1) := Prod.ext e e3
          subst this
          rw [if_pos (by simp [lastC])]
          rfl
        · have : k.2 = -1 := by omega
          rw [if_neg (by simp [lastC]; intro z; rw [z] at e3; exact e3 rfl), this]
          rfl
      · rw [if_neg e, if_neg (by simp [lastC]; intro z; rw [z] at e; exact e rfl)]
        rfl
  | cons k A =>
    have hR : ∀ (p : Bool), fmd (k :: A, p) K = (if (p && decide (K.head? = some (lastC (k :: A), 1))) = true then flp (k :: A) else k :: A) ++ K.filter fun x => !decide (x.1 ∈ cols (k :: A)) := fun p => rfl
    rw [hR b]
    by_cases e : k.1 = c
    · have e1 : stp (k :: A, b) c = ((c, -k.2) :: A, b) := by unfold stp; simp only; rw [if_pos e]
      have e2 : cols ((c, -k.2) :: A) = cols (k :: A) := by unfold cols; rw [List.map_cons, List.map_cons, e]
      have e3 : lastC ((c, -k.2) :: A) = lastC (k :: A) := by
        cases A with
        | nil => exact e.symm
        | cons _ _ => exact (lastC_cons (by simp)).trans (lastC_cons (by simp)).symm
      rw [e1]
      unfold fmd
      simp only [e2, e3]
      by_cases f : (b && decide (K.head? = some (lastC (k :: A), 1))) = true
      · rw [if_pos f, if_pos f]
        cases A with
        | nil =>
          show (c, - -k.2) :: _ = clk ((k.1, -k.2) :: _) c
          unfold clk
          simp only
          rw [if_pos e]
        | cons k2 A =>
          have f1 : flp ((c, -k.2) :: k2 :: A) = (c, -k.2) :: flp (k2 :: A) := flp_cons (by simp)
          have f2 : flp (k :: k2 :: A) = k :: flp (k2 :: A) := flp_cons (by simp)
          rw [f1, f2]
          show _ = clk (k :: (flp (k2 :: A) ++ _)) c
          unfold clk
          simp only
          rw [if_pos e]
          rfl
      · rw [if_neg f, if_neg f]
        show _ = clk (k :: (A ++ _)) c
        unfold clk
        simp only
        rw [if_pos e]
        rfl
    · have e1 : stp (k :: A, b) c = ((c, 1) :: (k :: A).filter (ne c), b && !decide (lastC (k :: A) = c)) := by unfold stp; simp only; rw [if_neg e]
      rw [e1]
      obtain ⟨M, hM⟩ : ∃ M, M = if (b && decide (K.head? = some (lastC (k :: A), 1))) = true then flp (k :: A) else k :: A := ⟨_, rfl⟩
      rw [← hM]
      have hm : ∃ m M', M = m :: M' ∧ m.1 = k.1 := by
        rw [hM]
        split
        · cases A with
          | nil => exact ⟨_, _, rfl, rfl⟩
          | cons k2 A => rw [flp_cons (by simp)]; exact ⟨_, _, rfl, rfl⟩
        · exact ⟨_, _, rfl, rfl⟩
      obtain ⟨m, M', hm1, hm2⟩ := hm
      have ec : clk (M ++ K.filter fun x => !decide (x.1 ∈ cols (k :: A))) c = (c, 1) :: (M.filter (ne c) ++ (K.filter fun x => !decide (x.1 ∈ cols (k :: A))).filter (ne c)) := by
        rw [← List.filter_append, hm1]
        unfold clk
        simp only [List.cons_append]
        rw [if_neg (by rw [hm2]; exact e)]
      rw [ec]
      have eR : (K.filter fun x => !decide (x.1 ∈ cols (k :: A))).filter (ne c) = K.filter fun x => !decide (x.1 ∈ cols ((c, 1) :: (k :: A).filter (ne c))) := by
        rw [List.filter_filter]
        refine List.filter_congr fun x _ => ?_
        have : x.1 ∈ cols ((c, 1) :: (k :: A).filter (ne c)) ↔ x.1 = c ∨ x.1 ∈ cols (k :: A) := by
          unfold cols
          simp only [List.map_cons, List.mem_cons, List.mem_map, List.mem_filter]
          constructor
          · rintro (h | ⟨y, ⟨h1, _⟩, h3⟩)
            · exact .inl h
            · right
              rcases h1 with rfl | h1
              · exact .inl h3.symm
              · exact .inr ⟨y, h1, h3⟩
          · rintro (h | h | ⟨y, h1, h3⟩)
            · exact .inl h
            · by_cases z : x.1 = c
              · exact .inl z
              · refine .inr ⟨k, ⟨.inl rfl, ?_⟩, h.symm⟩
                unfold ne
                simp [← h, z]
            · by_cases z : x.1 = c
              · exact .inl z
              · refine .inr ⟨y, ⟨.inr h1, ?_⟩, h3⟩
                unfold ne
                simp [h3, z]
        have h2 : decide (x.1 ∈ cols ((c, 1) :: (k :: A).filter (ne c))) = (decide (x.1 = c) || decide (x.1 ∈ cols (k :: A))) := (decide_eq_decide.mpr this).trans (Bool.decide_or _ _)
        rw [h2]
        unfold ne
        by_cases z : x.1 = c <;> by_cases z2 : x.1 ∈ cols (k :: A) <;> simp [z, z2]
      rw [eR]
      unfold fmd
      simp only
      rw [← List.cons_append]
      congr 1
      by_cases el : lastC (k :: A) = c
      · have : (b && !decide (lastC (k :: A) = c)) = false := by simp [el]
        rw [this, Bool.false_and, if_neg (by decide), hM]
        split
        · rw [flp_filter (by simp), if_pos el]
        · rfl
      · obtain ⟨l1, l2⟩ := lastC_filter (c := c) (A := k :: A) (by simp) el
        have : (b && !decide (lastC (k :: A) = c)) = b := by simp [el]
        rw [this, lastC_cons l2, l1, hM]
        split
        · rw [flp_cons l2, flp_filter (by simp), if_neg el]
        · rfl
theorem snoc_ind {P : List Int → Prop} (h0 : P []) (h1 : ∀ cs c, P cs → P (cs ++ [c])) : ∀ cs, P cs := fun cs => by
  rw [← List.reverse_reverse cs]
  induction cs.reverse with
  | nil => exact h0
  | cons c l ih => rw [List.reverse_cons]; exact h1 _ _ ih
theorem bnd_snoc (f : Int) (t : List Int) (c : Int) : bnd (f :: t ++ [c]) = if (t.dropWhile (· == f)).isEmpty = true then true else (bnd (f :: t) && !decide (c = f)) := by
  show (!((t ++ [c]).dropWhile (· == f)).contains f) = _
  rw [List.dropWhile_append]
  cases q : (t.dropWhile (· == f)).isEmpty with
  | true =>
    rw [if_pos rfl, if_pos rfl]
    by_cases e : c = f
    · simp [e]
    · simp [e, Ne.symm e]
  | false =>
    rw [if_neg (by decide), if_neg (by decide)]
    show _ = (!(t.dropWhile (· == f)).contains f && _)
    simp only [List.contains_eq_mem, List.mem_append, List.mem_singleton]
    by_cases e : c = f
    · simp [e]
    · simp [e, Ne.symm e]
theorem bnd_run {f : Int} {t : List Int} (h : (t.dropWhile (· == f)).isEmpty = true) : bnd (f :: t) = true ∧ ∀ x ∈ t, x = f := by
  rw [List.isEmpty_iff] at h
  refine ⟨by show (!(t.dropWhile (· == f)).contains f) = true; rw [h]; rfl, fun x hx => ?_⟩
  induction t with
  | nil => cases hx
  | cons y t ih =>
    by_cases e : y = f
    · subst e
      have e2 : (y :: t).dropWhile (· == y) = t.dropWhile (· == y) := by simp
      rw [e2] at h
      rcases List.mem_cons.mp hx with rfl | hx
      · rfl
      · exact ih h hx
    · have e2 : (y :: t).dropWhile (· == f) = y :: t := by simp [e]
      rw [e2] at h
      cases h
theorem dw_last {f : Int} : ∀ {t : List Int}, (t.dropWhile (· == f)).isEmpty = false → ∃ l, t.getLast? = some l ∧ l ∈ t.dropWhile (· == f)
  | [], h => by simp at h
  | x :: t, h => by
    by_cases e : x = f
    · subst e
      have e2 : (x :: t).dropWhile (· == x) = t.dropWhile (· == x) := by simp
      rw [e2] at h ⊢
      obtain ⟨l, h1, h2⟩ := dw_last h
      refine ⟨l, ?_, h2⟩
      rw [List.getLast?_cons, h1]
      rfl
    · have e2 : (x :: t).dropWhile (· == f) = x :: t := by simp [e]
      rw [e2]
      cases q : (x :: t).getLast? with
      | none => simp at q
      | some l => exact ⟨l, rfl, List.mem_of_getLast? q⟩
/-- the state behind clicks -/
structure Jn (cs : List Int) (F : Fm) : Prop where
  a : F.1 = clkd [] cs
  b : F.2 = bnd cs
  n : F.1 = [] ↔ cs = []
  l : F.2 = true → lastC F.1 = cs.headD 0
  h : F.1.head?.map Prod.fst = cs.getLast?
  o : F.1.length = 1 → F.2 = true
theorem jn_all : ∀ cs, Jn cs (cs.foldl stp ([], false)) := snoc_ind ⟨rfl, rfl, ⟨fun _ => rfl, fun _ => rfl⟩, (fun h => nomatch h), rfl, (fun h => nomatch h)⟩ fun cs c ih => by
  rw [List.foldl_append]
  generalize cs.foldl stp ([], false) = F at ih ⊢
  show Jn (cs ++ [c]) (stp F c)
  obtain ⟨A, b⟩ := F
  obtain ⟨ha, hb, hn, hl, hh, ho⟩ := ih
  simp only at ha hb hn hl hh ho
  have e0 : clkd [] (cs ++ [c]) = clk A c := by rw [ha]; unfold clkd; rw [List.foldl_append]; rfl
  cases A with
  | nil =>
    have := hn.mp rfl
    subst this
    exact ⟨rfl, rfl, by simp [stp], fun _ => rfl, rfl, fun _ => rfl⟩
  | cons k A =>
    obtain ⟨f, t, rfl⟩ : ∃ f t, cs = f :: t := by
      cases cs with
      | nil => exact absurd (hn.mpr rfl) (by simp)
      | cons f t => exact ⟨f, t, rfl⟩
    have hlast : (f :: t).getLast? = some k.1 := hh.symm
    have ec : clk (k :: A) c = (stp (k :: A, b) c).1 := by
      unfold clk stp
      simp only
      split <;> rfl
    have hbn : (stp (k :: A, b) c).2 = bnd (f :: t ++ [c]) := by
      rw [bnd_snoc]
      unfold stp
      simp only
      by_cases e : k.1 = c
      · rw [if_pos e]
        show b = _
        rw [hb]
        cases q : (t.dropWhile (· == f)).isEmpty with
        | true => rw [if_pos rfl]; exact (bnd_run q).1
        | false =>
          rw [if_neg (by decide)]
          obtain ⟨l, l1, l2⟩ := dw_last q
          have : l = c := by
            rw [List.getLast?_cons, l1] at hlast
            exact (Option.some.inj hlast).trans e
          subst this
          by_cases e2 : l = f
          · subst e2
            have : bnd (l :: t) = false := by
              show (!(t.dropWhile (· == l)).contains l) = false
              simp [l2]
            rw [this]
            rfl
          · simp [e2]
      · rw [if_neg e]
        show (b && !decide (lastC (k :: A) = c)) = _
        cases q : (t.dropWhile (· == f)).isEmpty with
        | true =>
          rw [if_pos rfl]
          obtain ⟨r1, r2⟩ := bnd_run q
          have hb' : b = true := hb.trans r1
          have hl' := hl hb'
          rw [hb', hl']
          have : k.1 = f := by
            rw [List.getLast?_cons] at hlast
            cases q2 : t.getLast? with
            | none => rw [q2] at hlast; exact (Option.some.inj hlast).symm
            | some x => rw [q2] at hlast; exact (Option.some.inj hlast).symm.trans (r2 x (List.mem_of_getLast? q2))
          show (true && !decide (f = c)) = true
          simp [← this, e]
        | false =>
          rw [if_neg (by decide), ← hb]
          cases b with
          | false => rfl
          | true =>
            rw [hl rfl]
            show (true && !decide (f = c)) = (true && !decide (c = f))
            simp [eq_comm]
    refine ⟨?_, hbn, ?_, ?_, ?_, ?_⟩
    · rw [e0, ec]
    · unfold stp
      simp only
      split <;> simp
    · unfold stp
      simp only
      split
      · rename_i e
        intro hb'
        show lastC ((c, -k.2) :: A) = f
        have := hl hb'
        cases A with
        | nil => exact e.symm.trans this
        | cons _ _ => rw [lastC_cons (by simp)] at this ⊢; exact this
      · intro hb'
        simp only [Bool.and_eq_true, Bool.not_eq_true', decide_eq_false_iff_not] at hb'
        obtain ⟨l1, l2⟩ := lastC_filter (c := c) (A := k :: A) (by simp) hb'.2
        show lastC ((c, 1) :: (k :: A).filter (ne c)) = f
        rw [lastC_cons l2, l1]
        exact hl hb'.1
    · unfold stp
      simp only
      rw [List.getLast?_append]
      split <;> rfl
    · unfold stp
      simp only
      split
      · exact ho
      · rename_i e
        intro h
        exfalso
        have : (k :: A).filter (ne c) = [] := by
          have : ((c, (1 : Int)) :: (k :: A).filter (ne c)).length = 1 := h
          rw [List.length_cons] at this
          exact List.length_eq_zero_iff.mp (by omega)
        rw [List.filter_eq_nil_iff] at this
        have := this k List.mem_cons_self
        unfold ne at this
        simp [e] at this
theorem fm_is (cs : List Int) : cs.foldl stp ([], false) = fm cs := Prod.ext (jn_all cs).a (jn_all cs).b
theorem jn (cs : List Int) : Jn cs (fm cs) := fm_is cs ▸ jn_all cs
/-- clicks do what their form tells -/
theorem form_does {K : List Ky} (hK : Srt K) : ∀ cs, fmd (fm cs) K = clkd K cs := snoc_ind (by
    show [] ++ (K.filter fun k => !decide (k.1 ∈ cols [])) = K
    rw [filter_all]
    rfl) fun cs c ih => by
  have e1 : fm (cs ++ [c]) = stp (fm cs) c := by rw [← fm_is, ← fm_is, List.foldl_append]; rfl
  have h0 : (fm cs).1 = [] → (fm cs).2 = false := fun h => by
    have := (jn cs).n.mp h
    subst this
    rfl
  rw [e1, fmd_stp h0 hK, ih]
  unfold clkd
  rw [List.foldl_append]
  rfl
end K09
namespace K09
open PySem L2 Evl Lw Dw
/-! ### data -/
def kD (k : Ky) : PyData := .tuple [.int k.1, .int k.2]
abbrev kL (K : List Ky) : PyData := .list (K.map kD)
abbrev fD (F : Fm) : PyData := .tuple [kL F.1, .bool F.2]
def Sm (K : List Ky) : Prop := K.length ≤ 300 ∧ ∀ k ∈ K, (k.1.natAbs ≤ 100000 ∧ k.2.natAbs ≤ 100000)
def Cl (cs : List Int) : Prop := cs.length ≤ 100 ∧ ∀ c ∈ cs, 0 ≤ c ∧ c < 1000
theorem at0 {α : Type} {x : α} {xs : List α} : atI (x :: xs) 0 = some x := atI_nat (show (x :: xs)[0]? = some x from rfl)
theorem sml_of {i : Int} (h : i.natAbs ≤ 100000) : Sml i := Nat.lt_of_le_of_lt h (by decide)
theorem fl_kD {k : Ky} (h : k.1.natAbs ≤ 100000 ∧ k.2.natAbs ≤ 100000) : Fl (kD k) 1 504 := fl_tup2 (fl_int (sml_of h.1)) (fl_int (sml_of h.2))
theorem fl_kL {K : List Ky} (h : Sm K) : Fl (kL K) 2 (505 * 300) := fl_list (k := 1) (w := 504) (fun x hx => by
  obtain ⟨k, hk, rfl⟩ := List.mem_map.mp hx
  exact fl_kD (h.2 k hk)) (by rw [List.length_map]; exact h.1)
theorem fl_fD {F : Fm} (h : Sm F.1) : Fl (fD F) 3 ((505 * 300 + 1) * 2) := fl_tup2 (fl_kL h) (fl_bool.mono (by decide) (by decide))
theorem fl_cs {cs : List Int} (h : Cl cs) : Fl (.list (iL cs)) 1 (252 * 100) := fl_iL (fun i hi => sml_of (by have := h.2 i hi; omega)) h.1
theorem sm_of {K : List Ky} (h : Srt K) (hl : K.length ≤ 300) : Sm K := ⟨hl, fun k hk => by
  have h1 := h.rg k hk
  have h2 := h.sg k hk
  omega⟩
theorem len_clk (K : List Ky) (c : Int) : (clk K c).length ≤ K.length + 1 := by
  unfold clk
  split
  · simp
  · split
    · simp
    · have : ∀ l : List Ky, (l.filter (ne c)).length ≤ l.length := fun l => List.length_filter_le _ _
      rename_i k K' _
      have := this (k :: K')
      rw [List.length_cons]
      omega
theorem len_clkd (K : List Ky) : ∀ cs : List Int, (clkd K cs).length ≤ K.length + cs.length := by
  intro cs
  unfold clkd
  induction cs generalizing K with
  | nil => simp
  | cons c cs ih =>
    have := ih (clk K c)
    have := len_clk K c
    rw [List.foldl_cons, List.length_cons]
    omega
theorem cl_take {cs : List Int} (h : Cl cs) (n : Nat) : Cl (cs.take n) := ⟨by rw [List.length_take]; have := h.1; omega, fun c hc => h.2 c (List.mem_of_mem_take hc)⟩
theorem kD_inj {k l : Ky} : PyData.eqv (kD k) (kD l) = decide (k = l) := by
  unfold kD
  simp only [PyData.eqv, PyData.eqvAll, Bool.and_true]
  obtain ⟨a, b⟩ := k
  obtain ⟨c, d⟩ := l
  rw [Bool.eq_iff_iff]
  simp
theorem eqvA_kL : ∀ K L : List Ky, PyData.eqvAll (K.map kD) (L.map kD) = decide (K = L)
  | [], [] => by simp [PyData.eqvAll]
  | [], _ :: _ => by simp [PyData.eqvAll]
  | _ :: _, [] => by simp [PyData.eqvAll]
  | k :: K, l :: L => by
    rw [List.map_cons, List.map_cons, PyData.eqvAll, kD_inj, eqvA_kL K L, Bool.eq_iff_iff]
    simp
theorem eqv_kL (K L : List Ky) : PyData.eqv (kL K) (kL L) = decide (K = L) := by rw [PyData.eqv, eqvA_kL]
theorem eqv_fD (F G : Fm) : PyData.eqv (fD F) (fD G) = decide (F = G) := by
  obtain ⟨K, b⟩ := F
  obtain ⟨L, d⟩ := G
  rw [PyData.eqv]
  simp only [PyData.eqvAll, Bool.and_true]
  rw [eqv_kL, PyData.eqv, Bool.eq_iff_iff]
  simp
theorem eqvA_iL : ∀ a b : List Int, PyData.eqvAll (iL a) (iL b) = decide (a = b)
  | [], [] => by simp [PyData.eqvAll]
  | [], _ :: _ => by simp [PyData.eqvAll]
  | _ :: _, [] => by simp [PyData.eqvAll]
  | k :: K, l :: L => by
    show PyData.eqvAll (.int k :: iL K) (.int l :: iL L) = _
    rw [PyData.eqvAll, eqvA_iL K L, PyData.eqv, Bool.eq_iff_iff]
    simp
section
variable {P : Program} {w : World} {K : PySem.W.Frag} {mg : Str → Option Value} {base : Heap}
/-! check_columns_from_zero -/
def c_cz : PCon PyData := fun xs P => ∃ cs, xs = [.list (iL cs)] ∧ Cl cs ∧ P .none
theorem m_cz : MonP c_cz := fun xs P1 P2 h ⟨cs, e, a, q⟩ => ⟨cs, e, a, h _ q⟩
theorem sc_cz : FnScope ["columns", "column"] ["columns"] (defScope s_cz) := ⟨rfl, rfl, rfl, by decide +kernel, rfl, by decide +kernel, by decide +kernel⟩
theorem ok_cz : ∀ f fd, Fun K "check_columns_from_zero" "check_columns_from_zero" s_cz f fd → FnOk P w K mg base CX0 1 f fd ["columns"] (GC K (pcD c_cz)) := by
  refine ok_D m_cz (fun xs P1 ⟨_, e, _⟩ => by rw [e]; rfl) sc_cz (by decide) fun f cdv A outer s H E Γ _ hr xs P1 h => ?_
  obtain ⟨cs, rfl, hc, q⟩ := h
  refine ds_one (ds_for (fun i ρ => ∃ t, ρ = [.d (.list (iL cs)), t]) (h := di_list ?_))
  walk_at "D"
  refine ⟨_, rfl, ⟨_, rfl⟩, ?_, fun _ _ => q⟩
  rintro i z ρ2 hz ⟨t, rfl⟩ F
  obtain ⟨c, h1, rfl⟩ := iL_at hz
  refine dg_name 1 sc_cz.nd (q := ds_one (ds_if (dt_cm (dc_i op_lt (h := ?_)))))
  walk_at "D"
  have := hc.2 c (List.mem_of_getElem? h1)
  exact ⟨_, _, rfl, rfl, iff_ (decide_eq_false (by omega)) (ds_nil ⟨_, rfl⟩)⟩
/-! _behind_click -/
def c_bc : PCon (List PyData) := fun xs P => ∃ (S : List Ky) (c : Int), xs = [kL S, .int c] ∧ Srt S ∧ S.length ≤ 300 ∧ P ((clk S c).map kD)
theorem m_bc : MonP c_bc := fun xs P1 P2 h ⟨S, c, e, a, b, q⟩ => ⟨S, c, e, a, b, h _ q⟩
abbrev N_bc : List Str := ["keys", "column", "others", "key"]
theorem sc_bc : FnScope N_bc ["keys", "column"] (defScope s_bc) := ⟨rfl, rfl, rfl, by decide +kernel, rfl, by decide +kernel, by decide +kernel⟩
def neD (c : Int) : PyData → Option PyData
  | .tuple [.int a, .int b] => if (!decide (a = c)) = true then some (.tuple [.int a, .int b]) else none
  | _ => none
theorem ok_bc : ∀ f fd, Fun K "_behind_click" "_behind_click" s_bc f fd → FnOk P w K mg base CX0 1 f fd ["keys", "column"] (GC K (pcL c_bc)) := by
  refine ok_L (fun xs P1 ⟨_, _, e, _⟩ => by rw [e]; rfl) sc_bc (by decide) fun f cdv A outer s H E Γ _ hr xs P1 h => ?_
  obtain ⟨S, c, rfl, hS, hl, q⟩ := h
  refine ds_cons (ds_setLc 2 [("key", 3)] sc_bc.nd (ok := blkOk_by (N := N_bc) (sc := defScope s_bc) (by decide +kernel)) (h := di_list ?_))
  walk_at "D"
  refine ⟨_, rfl, LcI.pure (neD c) (by rw [List.length_map]; exact Nat.lt_of_le_of_lt hl (by decide)) rfl ?_ ?_⟩
  · intro i x hx s H0 C cl fp
    obtain ⟨k, h1, rfl⟩ := get_map hx
    refine dg_name 3 sc_bc.nd (q := ⟨by decide, ?_⟩)
    intro s H0 C cl fp
    refine dts_one (dt_cm (dc_i op_neI (h := d_ix (h := ?_))))
    walk_at "D"
    refine ⟨_, _, _, .inr rfl, rfl, rfl, ?_⟩
    walk_at "D"
    refine ⟨_, _, rfl, rfl, ifb (fun hb => ?_) fun hb => ⟨?_, rfl⟩⟩
    · intro s H0 C cl fp
      walk_at "D"
      exact ⟨_, rfl, if_pos hb, rfl⟩
    · exact if_neg (by rw [hb]; decide)
  rw [fm_map2f (f := neD c) (p := ne c) (g := kD) S fun k _ => rfl]
  have hlf : (S.filter (ne c)).length ≤ S.length := List.length_filter_le _ _
  refine ds_cons (ds_if (dt_to (match S with | [] => false | k :: _ => decide (k.1 = c)) ?_ ?_))
  · refine dt_wb (db_and (h := dt_truL (h := ?_)))
    walk_at "D"
    refine ⟨_, rfl, ?_⟩
    cases S with
    | nil => exact iff_ rfl ⟨rfl, rfl⟩
    | cons k S =>
      refine ift rfl (db_and1 (dt_cm (dc_i op_eqI (h := d_ix (h := d_ix (h := ?_))))))
      walk_at "D"
      refine ⟨_, _, kD k, .inl rfl, rfl, at0, ?_⟩
      walk_at "D"
      refine ⟨_, _, _, .inr rfl, rfl, rfl, ?_⟩
      walk_at "D"
      exact ⟨_, _, rfl, rfl, rfl, rfl⟩
  cases S with
  | nil =>
    refine iff_ rfl (ds_nil (ds_one (ds_ret (d_cat (h := d_lst (da_cons (h := d_tup (h := ?_)))))))) 
    walk_at "D"
    refine ⟨_, rfl, by show 2 ≤ sizeLine; decide, ?_⟩
    walk_at "D"
    refine ⟨_, rfl, by show 1 ≤ sizeLine; decide, ?_⟩
    walk_at "D"
    exact ⟨_, _, rfl, rfl, by show 1 + 0 ≤ sizeLine; decide, _, rfl, q⟩
  | cons k S =>
    refine ifd (fun e => ?_) fun e => ?_
    · refine ds_one (ds_ret (d_cat (h := d_lst (da_cons (h := d_tup (h := ?_))))))
      walk_at "D"
      refine d_ix (h := d_ix (h := ?_))
      walk_at "D"
      refine ⟨_, _, kD k, .inl rfl, rfl, at0, ?_⟩
      walk_at "D"
      refine ⟨_, _, _, .inr rfl, rfl, rfl, _, rfl, ?_⟩
      walk_at "D"
      refine ⟨_, rfl, by show 2 ≤ sizeLine; decide, ?_⟩
      walk_at "D"
      refine ⟨_, rfl, by show 1 ≤ sizeLine; decide, ?_⟩
      walk_at "D"
      refine ⟨_, _, rfl, rfl, ?_, _, rfl, ?_⟩
      · rw [List.length_map]
        exact Nat.le_trans (by simp; simp at hl; simp at hlf; omega : _ ≤ 1000) (by decide)
      have hn : k.1 ∉ cols S ∧ (cols S).Nodup := List.nodup_cons.mp hS.nd
      have e2 : (k :: S).filter (ne c) = S := by
        rw [List.filter_cons, if_neg (by unfold ne; simp [e]), filter_ne (e ▸ hn.1)]
      have e3 : clk (k :: S) c = (c, -k.2) :: S := by
        unfold clk
        simp only
        rw [if_pos e]
      rw [e3] at q
      rw [e2]
      exact q
    · refine ds_nil (ds_one (ds_ret (d_cat (h := d_lst (da_cons (h := d_tup (h := ?_)))))))
      walk_at "D"
      refine ⟨_, rfl, by show 2 ≤ sizeLine; decide, ?_⟩
      walk_at "D"
      refine ⟨_, rfl, by show 1 ≤ sizeLine; decide, ?_⟩
      walk_at "D"
      refine ⟨_, _, rfl, rfl, ?_, _, rfl, ?_⟩
      · rw [List.length_map]
        exact Nat.le_trans (by simp; simp at hl; simp at hlf; omega : _ ≤ 1000) (by decide)
      have e3 : clk (k :: S) c = (c, 1) :: (k :: S).filter (ne c) := by
        unfold clk
        simp only
        rw [if_neg e]
      rw [e3] at q
      exact q
/-! clicked_on -/
def c_co : PCon (List PyData) := fun xs P => ∃ (S : List Ky) (cs : List Int), xs = [kL S, .list (iL cs)] ∧ Srt S ∧ S.length ≤ 100 ∧ Cl cs ∧ P ((clkd S cs).map kD)
theorem m_co : MonP c_co := fun xs P1 P2 h ⟨S, c, e, a, b, d, q⟩ => ⟨S, c, e, a, b, d, h _ q⟩
abbrev N_co : List Str := ["sorting", "clicks", "keys", "column"]
theorem sc_co : FnScope N_co ["sorting", "clicks"] (defScope s_co) := ⟨rfl, rfl, rfl, by decide +kernel, rfl, by decide +kernel, by decide +kernel⟩
theorem ok_co (mli : mg "list" = none) (e1 : Cal P w K mg base "_behind_click" 1 ["keys", "column"] (GC K (pcL c_bc))) : ∀ f fd, Fun K "clicked_on" "clicked_on" s_co f fd → FnOk P w K mg base CX0 2 f fd ["sorting", "clicks"] (GC K (pcL c_co)) := by
  refine ok_L (fun xs P1 ⟨_, _, e, _⟩ => by rw [e]; rfl) sc_co (by decide) fun f cdv A outer s H E Γ _ hr xs P1 h => ?_
  obtain ⟨S, cs, rfl, hS, hl, hC, q⟩ := h
  refine ds_cons (ds_set 2 sc_co.nd (h := d_list1 mli (h := ?_)))
  walk_at "D"
  refine ⟨_, .inl rfl, rfl, ?_⟩
  refine ds_cons (ds_for (fun i ρ => ∃ t, ρ = [.d (kL S), .d (.list (iL cs)), .ol ((clkd S (cs.take i)).map kD), t]) (h := di_list ?_))
  walk_at "D"
  refine ⟨_, rfl, ⟨_, rfl⟩, ?_, ?_⟩
  · rintro i z ρ2 hz ⟨t, rfl⟩ F
    obtain ⟨c, h1, rfl⟩ := iL_at hz
    refine dg_name 3 sc_co.nd (q := ds_freeze 2 rfl (ds_one (ds_set 2 sc_co.nd (h := d_callL (calW e1 (hr.mono (by decide))) m_bc (h := ?_)))))
    walk_at "D"
    refine ⟨_, rfl, clkd S (cs.take i), c, rfl, srt_clkd hS fun d hd => hC.2 d (List.mem_of_mem_take hd), ?_, rfl, .d (.int c), ?_⟩
    · have := len_clkd S (cs.take i)
      have := (cl_take hC i).1
      omega
    · rw [take_next h1]
      unfold clkd
      rw [List.foldl_append]
      rfl
  · rintro ρ2 ⟨t, rfl⟩
    refine ds_one (ds_retO 2 (q := ⟨_, rfl, ?_⟩))
    rw [List.length_map, List.take_length]
    exact q
end
end K09
namespace K09
open PySem L2 Evl Lw Dw
/-! ### keys that are right -/
def okK (k : Ky) : Bool := decide (k.1 ≥ 0) && (decide (k.2 = 1) || decide (k.2 = -1))
def akB (K : List Ky) : Bool := K.all okK && decide (cols K).Nodup
def isfB (F : Fm) : Bool := akB F.1 && (decide (F.1.length > 1) || (F.2 == decide (F.1.length = 1)))
theorem atm {α : Type} {xs : List α} {x : α} (h : xs.getLast? = some x) : atI xs (-1) = some x := by
  obtain ⟨ys, rfl⟩ := List.getLast?_eq_some_iff.mp h
  exact atI_last ys x
theorem lastK {K : List Ky} (h : K ≠ []) : ∃ s, K.getLast? = some (lastC K, s) := by
  unfold lastC
  cases q : K.getLast? with
  | none => rw [List.getLast?_eq_none_iff] at q; exact absurd q h
  | some k => exact ⟨k.2, rfl⟩
theorem inV_pm (b : Int) : inV (.int b) [.int 1, .int (-1)] = (decide (b = 1) || decide (b = -1)) := by
  unfold inV
  simp only [List.any_cons, List.any_nil, Bool.or_false]
  have e : ∀ i : Int, eqV (.int i) (.int b) = decide (b = i) := fun i => by
    show (i == b) = decide (b = i)
    rw [Bool.eq_iff_iff, beq_iff_eq, decide_eq_true_eq]
    exact ⟨fun h => h.symm, fun h => h.symm⟩
  rw [e, e]
theorem akB_of {K : List Ky} (h : Srt K) : akB K = true := by
  unfold akB
  rw [Bool.and_eq_true, List.all_eq_true]
  refine ⟨fun k hk => ?_, decide_eq_true h.nd⟩
  have h1 := h.rg k hk
  have h2 := h.sg k hk
  unfold okK
  simp only [Bool.and_eq_true, Bool.or_eq_true, decide_eq_true_eq]
  exact ⟨h1.1, h2⟩
/-- the places of other columns than f -/
def oth (f : Int) : List Int → Nat → List Int
  | [], _ => []
  | c :: cs, k => if c = f then oth f cs (k + 1) else (k : Int) :: oth f cs (k + 1)
def othD (f : Int) : PyData → Option PyData
  | .tuple [.int i, .int c] => if (!decide (c = f)) = true then some (.int i) else none
  | _ => none
theorem oth_is (f : Int) : ∀ (cs : List Int) (k : Nat), (((iL cs).zipIdx k).map fun p => PyData.tuple [.int (p.2 : Nat), p.1]).filterMap (othD f) = iL (oth f cs k)
  | [], _ => rfl
  | c :: cs, k => by
    show ((PyData.tuple [.int (k : Nat), .int c]) :: (((iL cs).zipIdx (k + 1)).map fun p => PyData.tuple [.int (p.2 : Nat), p.1])).filterMap (othD f) = _
    rw [List.filterMap_cons]
    have ih := oth_is f cs (k + 1)
    unfold oth
    by_cases e : c = f
    · rw [show othD f (.tuple [.int (k : Nat), .int c]) = none by unfold othD; simp [e], if_pos e]
      exact ih
    · rw [show othD f (.tuple [.int (k : Nat), .int c]) = some (.int (k : Nat)) by unfold othD; simp [e], if_neg e]
      show PyData.int (k : Nat) :: _ = _
      rw [ih]
      rfl
theorem oth_ge (f : Int) : ∀ (cs : List Int) (k : Nat), ∀ i ∈ oth f cs k, ∃ n : Nat, i = (n : Nat) ∧ k ≤ n ∧ n < k + cs.length
  | [], _, _, h => by cases h
  | c :: cs, k, i, h => by
    unfold oth at h
    split at h
    · obtain ⟨n, h1, h2, h3⟩ := oth_ge f cs (k + 1) i h
      exact ⟨n, h1, by omega, by simp; omega⟩
    · rcases List.mem_cons.mp h with rfl | h
      · exact ⟨k, rfl, Nat.le_refl _, by simp⟩
      · obtain ⟨n, h1, h2, h3⟩ := oth_ge f cs (k + 1) i h
        exact ⟨n, h1, by omega, by simp; omega⟩
theorem oth_cut (f : Int) : ∀ (cs : List Int) (k : Nat), (oth f cs k = [] ∧ cs.dropWhile (· == f) = []) ∨ ∃ (n : Nat) (is : List Int), oth f cs k = ((k + n : Nat) : Int) :: is ∧ cs.drop n = cs.dropWhile (· == f) ∧ n < cs.length
  | [], _ => .inl ⟨rfl, rfl⟩
  | c :: cs, k => by
    unfold oth
    by_cases e : c = f
    · subst e
      rw [if_pos rfl, show (c :: cs).dropWhile (· == c) = cs.dropWhile (· == c) by simp]
      rcases oth_cut c cs (k + 1) with ⟨h1, h2⟩ | ⟨n, is, h1, h2, h3⟩
      · exact .inl ⟨h1, h2⟩
      · exact .inr ⟨n + 1, is, by rw [h1]; congr 1; omega, h2, by simp; omega⟩
    · rw [if_neg e, show (c :: cs).dropWhile (· == f) = c :: cs by simp [e]]
      exact .inr ⟨0, _, rfl, rfl, by simp⟩
section
variable {P : Program} {w : World} {K : PySem.W.Frag} {mg : Str → Option Value} {base : Heap}
/-! are_keys -/
def c_ak : PCon PyData := fun xs P => ∃ S : List Ky, xs = [kL S] ∧ Sm S ∧ P (.bool (akB S))
theorem m_ak : MonP c_ak := fun xs P1 P2 h ⟨S, e, a, q⟩ => ⟨S, e, a, h _ q⟩
abbrev N_ak : List Str := ["sorting", "columns", "column", "sign"]
theorem sc_ak : FnScope N_ak ["sorting"] (defScope s_ak) := ⟨rfl, rfl, rfl, by decide +kernel, rfl, by decide +kernel, by decide +kernel⟩
def akD : PyData → Option PyData
  | .tuple [.int a, .int b] => if okK (a, b) = true then some (.int a) else none
  | _ => none
theorem ok_ak (ml : mg "len" = none) (ms : mg "set" = none) : ∀ f fd, Fun K "are_keys" "are_keys" s_ak f fd → FnOk P w K mg base CX0 1 f fd ["sorting"] (GC K (pcD c_ak)) := by
  refine ok_D m_ak (fun xs P1 ⟨_, e, _⟩ => by rw [e]; rfl) sc_ak (by decide) fun f cdv A outer s H E Γ _ hr xs P1 h => ?_
  obtain ⟨S, rfl, hS, q⟩ := h
  refine ds_cons (ds_setLc 1 [("column", 2), ("sign", 3)] sc_ak.nd (ok := blkOk_by (N := N_ak) (sc := defScope s_ak) (by decide +kernel)) (h := di_list ?_))
  walk_at "D"
  refine ⟨_, rfl, LcI.pure akD (by rw [List.length_map]; exact Nat.lt_of_le_of_lt hS.1 (by decide)) rfl ?_ ?_⟩
  · intro i x hx s H0 C cl fp
    obtain ⟨k, h1, rfl⟩ := get_map hx
    refine dg_tup rfl (h := dgs_cons (h := dg_name 2 sc_ak.nd (q := dgs_cons (h := dg_name 3 sc_ak.nd (q := dgs_nil ⟨by decide, ?_⟩)))))
    intro s H0 C cl fp
    refine dts_one (dt_to (okK k) ?_ ?_)
    · refine dt_wb (db_and (h := dt_cm (dc_i op_ge (h := ?_))))
      walk_at "D"
      refine ⟨_, _, rfl, rfl, ?_⟩
      unfold okK
      refine ifb (fun hb => ?_) fun hb => ⟨by rw [hb]; rfl, rfl⟩
      refine db_and1 (dt_cm (dc_inT false op_in_seq (h := ?_)))
      walk_at "D"
      refine ⟨_, _, rfl, rfl, ?_⟩
      walk_at "D"
      refine ⟨_, rfl, ?_⟩
      walk_at "D"
      refine ⟨_, rfl, by show 2 ≤ sizeLine; decide, _, [.int 1, .int (-1)], .inl rfl, rfl, rfl, rfl, ?_, rfl⟩
      show inV (.int k.2) [.int 1, .int (-1)] = _
      rw [inV_pm, hb]
      rfl
    refine ifb (fun hb => ?_) fun hb => ⟨?_, rfl⟩
    · intro s H0 C cl fp
      walk_at "D"
      exact ⟨_, rfl, if_pos hb, rfl⟩
    · exact if_neg (by rw [show okK (k.1, k.2) = false from hb]; decide)
  rw [fm_map2f (f := akD) (p := okK) (g := fun k => .int k.1) S fun k _ => rfl]
  have e1 : ((S.filter okK).map fun k => PyData.int k.1) = iL (cols (S.filter okK)) := by unfold iL cols; rw [List.map_map]; rfl
  rw [e1]
  have hlf : (S.filter okK).length ≤ S.length := List.length_filter_le _ _
  have hls := hS.1
  have hlc : (cols (S.filter okK)).length = (S.filter okK).length := by unfold cols; rw [List.length_map]
  refine ds_one (ds_ret (d_ichain op_eqI op_eqI (h := d_len ml (h := ?_))))
  walk_at "D"
  refine ⟨_, .inl rfl, d_len ml (h := ?_)⟩
  walk_at "D"
  refine ⟨_, .inl rfl, _, _, rfl, rfl, ?_⟩
  rw [List.length_map, List.length_map, hlc]
  refine ifd (fun hh => ?_) fun hh => ⟨_, rfl, ?_⟩
  · have hh' : (S.filter okK).length = S.length := by omega
    have eS : S.filter okK = S := List.filter_eq_self.mpr (List.length_filter_eq_length_iff.mp hh')
    refine d_lenSetG ml ms (h := ?_)
    walk_at "D"
    refine ⟨cols (S.filter okK), rfl, by omega, fun n hn => ⟨_, rfl, _, rfl, ?_⟩⟩
    have : akB S = decide (((S.length : Nat) : Int) = (n : Nat)) := by
      unfold akB
      have ha : S.all okK = true := List.all_eq_true.mpr (List.length_filter_eq_length_iff.mp hh')
      rw [ha, Bool.true_and, Bool.eq_iff_iff, decide_eq_true_eq, decide_eq_true_eq]
      rw [eS] at hn hlc
      rw [hlc] at hn
      constructor
      · intro z; have := hn.mpr z; omega
      · intro z; exact hn.mp (by omega)
    rw [this] at q
    exact q
  · have : akB S = false := by
      unfold akB
      cases ha : S.all okK with
      | false => rfl
      | true =>
        exfalso
        exact hh (by rw [List.filter_eq_self.mpr (List.all_eq_true.mp ha)])
    rw [this] at q
    exact q
/-! check_keys -/
def c_ck : PCon PyData := fun xs P => ∃ S : List Ky, xs = [kL S] ∧ Srt S ∧ S.length ≤ 300 ∧ P .none
theorem m_ck : MonP c_ck := fun xs P1 P2 h ⟨S, e, a, b, q⟩ => ⟨S, e, a, b, h _ q⟩
theorem sc_ck : FnScope ["sorting"] ["sorting"] (defScope s_ck) := ⟨rfl, rfl, rfl, by decide +kernel, rfl, by decide +kernel, by decide +kernel⟩
theorem ok_ck (e1 : Cal P w K mg base "are_keys" 1 ["sorting"] (GC K (pcD c_ak))) : ∀ f fd, Fun K "check_keys" "check_keys" s_ck f fd → FnOk P w K mg base CX0 2 f fd ["sorting"] (GC K (pcD c_ck)) := by
  refine ok_D m_ck (fun xs P1 ⟨_, e, _⟩ => by rw [e]; rfl) sc_ck (by decide) fun f cdv A outer s H E Γ _ hr xs P1 h => ?_
  obtain ⟨S, rfl, hS, hl, q⟩ := h
  refine ds_one (ds_if (dt_not (dt_val (d_callD (calW e1 (hr.mono (by decide))) m_ak (h := ?_)))))
  walk_at "D"
  exact ⟨_, rfl, S, rfl, sm_of hS hl, _, rfl, iff_ (by rw [akB_of hS]; rfl) (ds_nil q)⟩
/-! _is_bound -/
def c_ib : PCon PyData := fun xs P => ∃ cs, xs = [.list (iL cs)] ∧ Cl cs ∧ P (.bool (bnd cs))
theorem m_ib : MonP c_ib := fun xs P1 P2 h ⟨cs, e, a, q⟩ => ⟨cs, e, a, h _ q⟩
abbrev N_ib : List Str := ["clicks", "others", "at", "column"]
theorem sc_ib : FnScope N_ib ["clicks"] (defScope s_ib) := ⟨rfl, rfl, rfl, by decide +kernel, rfl, by decide +kernel, by decide +kernel⟩
theorem ok_ib (me : mg "enumerate" = none) : ∀ f fd, Fun K "_is_bound" "_is_bound" s_ib f fd → FnOk P w K mg base CX0 1 f fd ["clicks"] (GC K (pcD c_ib)) := by
  refine ok_D m_ib (fun xs P1 ⟨_, e, _⟩ => by rw [e]; rfl) sc_ib (by decide) fun f cdv A outer s H E Γ _ hr xs P1 h => ?_
  obtain ⟨cs, rfl, hc, q⟩ := h
  refine ds_cons (ds_if (dt_not (dt_truL (h := ?_))))
  walk_at "D"
  refine ⟨_, rfl, ?_⟩
  cases cs with
  | nil =>
    refine ift rfl (ds_one (ds_ret ?_))
    walk_at "D"
    exact ⟨_, rfl, q⟩
  | cons f0 t =>
    refine iff_ rfl (ds_nil ?_)
    refine ds_cons (ds_setLc 1 [("at", 2), ("column", 3)] sc_ib.nd (ok := blkOk_by (N := N_ib) (sc := defScope s_ib) (by decide +kernel)) (h := di_enum me (h := ?_)))
    walk_at "D"
    refine ⟨_, rfl, LcI.pure (othD f0) ?_ rfl ?_ ?_⟩
    · unfold enumD
      rw [List.length_map, List.length_zipIdx, List.length_map]
      exact Nat.lt_of_le_of_lt hc.1 (by decide)
    · intro i x hx s H0 C cl fp
      obtain ⟨z, h1, rfl⟩ := enum_at hx
      obtain ⟨c, h2, rfl⟩ := iL_at h1
      refine dg_tup rfl (h := dgs_cons (h := dg_name 2 sc_ib.nd (q := dgs_cons (h := dg_name 3 sc_ib.nd (q := dgs_nil ⟨by decide, ?_⟩)))))
      intro s H0 C cl fp
      refine dts_one (dt_cm (dc_i op_neI (h := ?_)))
      walk_at "D"
      refine d_ix (h := ?_)
      walk_at "D"
      refine ⟨_, _, _, .inl rfl, rfl, at0, _, _, rfl, rfl, ifb (fun hb => ?_) fun hb => ⟨?_, rfl⟩⟩
      · intro s H0 C cl fp
        walk_at "D"
        exact ⟨_, rfl, if_pos hb, rfl⟩
      · exact if_neg (by rw [hb]; decide)
    rw [show (enumD (iL (f0 :: t))).filterMap (othD f0) = iL (oth f0 (f0 :: t) 0) from oth_is f0 (f0 :: t) 0]
    have eb : bnd (f0 :: t) = !((f0 :: t).dropWhile (· == f0)).contains f0 := by
      show (!(t.dropWhile (· == f0)).contains f0) = _
      rw [show (f0 :: t).dropWhile (· == f0) = t.dropWhile (· == f0) by simp]
    rw [eb] at q
    have hge := oth_ge f0 (f0 :: t) 0
    rcases oth_cut f0 (f0 :: t) 0 with ⟨h1, h2⟩ | ⟨n, is, h1, h2, h3⟩
    · rw [h1]
      rw [h2] at q
      refine ds_one (ds_ret (d_or (h := d_notL (h := ?_))))
      walk_at "D"
      exact ⟨_, rfl, _, rfl, ift rfl ⟨_, rfl, q⟩⟩
    · rw [h1]
      rw [← h2] at q
      refine ds_one (ds_ret (d_or (h := d_notL (h := ?_))))
      walk_at "D"
      refine ⟨_, rfl, _, rfl, iff_ rfl (d_one (d_cm (dc_notin (room65 hr) (h := d_ix (h := ?_)))))⟩
      walk_at "D"
      refine ⟨_, _, _, .inl rfl, rfl, at0, _, rfl, d_slice (h := ?_)⟩
      walk_at "D"
      refine d_ix (h := ?_)
      walk_at "D"
      refine ⟨_, _, _, .inl rfl, rfl, at0, _, rfl, do_none ⟨_, rfl, _, rfl, ?_⟩⟩
      have h0 := hc.2 f0 List.mem_cons_self
      have ecut : cut (iL (f0 :: t)) (some (((0 + n : Nat) : Nat) : Int)) none = iL ((f0 :: t).drop n) := by
        rw [Nat.zero_add]
        unfold iL
        rw [cut_map, cut_fr]
      rw [ecut]
      have fD : Fl (.list (iL ((f0 :: t).drop n))) 1 (252 * 100) := fl_iL (fun i hi => sml_of (by have := hc.2 i (List.mem_of_mem_drop hi); omega)) (by rw [List.length_drop]; have := hc.1; omega)
      refine ⟨(fl_int (sml_of (by omega))).okD, fD.okD, _, rfl, ?_⟩
      rw [any_iL]
      rw [List.contains_eq_mem] at q
      exact q
end
end K09
namespace K09
open PySem L2 Evl Lw Dw
section
variable {P : Program} {w : World} {K : PySem.W.Frag} {mg : Str → Option Value} {base : Heap}
theorem fm_srt {cs : List Int} (h : Cl cs) : Srt (fm cs).1 := srt_clkd srt_nil h.2
theorem fm_len {cs : List Int} (h : Cl cs) : (fm cs).1.length ≤ 100 := by
  have := len_clkd [] cs
  have := h.1
  show (clkd [] cs).length ≤ 100
  simp at *
  omega
theorem fm_sm {cs : List Int} (h : Cl cs) : Sm (fm cs).1 := sm_of (fm_srt h) (by have := fm_len h; omega)
theorem fm_isf {cs : List Int} (h : Cl cs) : isfB (fm cs) = true := by
  unfold isfB
  rw [akB_of (fm_srt h), Bool.true_and, Bool.or_eq_true]
  have J := jn cs
  by_cases h1 : (fm cs).1.length = 1
  · right
    rw [J.o h1, h1]
    rfl
  · by_cases h0 : (fm cs).1 = []
    · right
      have := J.n.mp h0
      subst this
      rfl
    · left
      have : 0 < (fm cs).1.length := List.length_pos_iff.mpr h0
      exact decide_eq_true (by omega)
/-! form_of -/
def c_fo : PCon PyData := fun xs P => ∃ cs, xs = [.list (iL cs)] ∧ Cl cs ∧ P (fD (fm cs))
theorem m_fo : MonP c_fo := fun xs P1 P2 h ⟨cs, e, a, q⟩ => ⟨cs, e, a, h _ q⟩
theorem sc_fo : FnScope ["clicks"] ["clicks"] (defScope s_fo) := ⟨rfl, rfl, rfl, by decide +kernel, rfl, by decide +kernel, by decide +kernel⟩
theorem ok_fo (e0 : Cal P w K mg base "check_columns_from_zero" 1 ["columns"] (GC K (pcD c_cz))) (e1 : Cal P w K mg base "clicked_on" 2 ["sorting", "clicks"] (GC K (pcL c_co))) (e2 : Cal P w K mg base "_is_bound" 1 ["clicks"] (GC K (pcD c_ib))) :
    ∀ f fd, Fun K "form_of" "form_of" s_fo f fd → FnOk P w K mg base CX0 3 f fd ["clicks"] (GC K (pcD c_fo)) := by
  refine ok_D m_fo (fun xs P1 ⟨_, e, _⟩ => by rw [e]; rfl) sc_fo (by decide) fun f cdv A outer s H E Γ _ hr xs P1 h => ?_
  obtain ⟨cs, rfl, hc, q⟩ := h
  refine ds_cons (ds_expr (h := d_callD (calW e0 (hr.mono (by decide))) m_cz (h := ?_)))
  walk_at "D"
  refine ⟨_, rfl, cs, rfl, hc, ?_⟩
  refine ds_one (ds_ret (d_tup (da_cons (h := d_callL (calW e1 (hr.mono (by decide))) m_co (h := ?_)))))
  walk_at "D"
  refine ⟨_, rfl, by show 0 ≤ sizeLine; decide, ?_⟩
  walk_at "D"
  refine ⟨_, rfl, [], cs, rfl, srt_nil, by decide, hc, da_cons (h := d_callD (calW e2 (hr.mono (by decide))) m_ib (h := ?_))⟩
  walk_at "D"
  refine ⟨_, rfl, cs, rfl, hc, ?_⟩
  walk_at "D"
  exact ⟨_, rfl, by show 2 ≤ sizeLine; decide, _, rfl, q⟩
/-! is_form -/
def c_isf : PCon PyData := fun xs P => ∃ F : Fm, xs = [fD F] ∧ Sm F.1 ∧ P (.bool (isfB F))
theorem m_isf : MonP c_isf := fun xs P1 P2 h ⟨cs, e, a, q⟩ => ⟨cs, e, a, h _ q⟩
abbrev N_isf : List Str := ["form", "keys", "bound"]
theorem sc_isf : FnScope N_isf ["form"] (defScope s_isf) := ⟨rfl, rfl, rfl, by decide +kernel, rfl, by decide +kernel, by decide +kernel⟩
theorem ok_isf (ml : mg "len" = none) (e1 : Cal P w K mg base "are_keys" 1 ["sorting"] (GC K (pcD c_ak))) : ∀ f fd, Fun K "is_form" "is_form" s_isf f fd → FnOk P w K mg base CX0 2 f fd ["form"] (GC K (pcD c_isf)) := by
  refine ok_D m_isf (fun xs P1 ⟨_, e, _⟩ => by rw [e]; rfl) sc_isf (by decide) fun f cdv A outer s H E Γ _ hr xs P1 h => ?_
  obtain ⟨F, rfl, hS, q⟩ := h
  refine ds_cons (ds_asg (h := ?_))
  walk_at "D"
  refine ⟨_, rfl, dg_tup rfl (h := dgs_cons (h := dg_name 1 sc_isf.nd (q := dgs_cons (h := dg_name 2 sc_isf.nd (q := dgs_nil ?_)))))⟩
  refine ds_cons (ds_if (dt_not (dt_val (d_callD (calW e1 (hr.mono (by decide))) m_ak (h := ?_)))))
  walk_at "D"
  refine ⟨_, rfl, F.1, rfl, hS, _, rfl, ?_⟩
  unfold isfB at q
  cases ha : akB F.1 with
  | false =>
    rw [ha] at q
    refine ift rfl (ds_one (ds_ret ?_))
    walk_at "D"
    exact ⟨_, rfl, q⟩
  | true =>
    rw [ha, Bool.true_and] at q
    refine iff_ rfl (ds_nil (ds_one (ds_ret (d_or (h := d_cm (dc_i op_gt (h := d_len ml (h := ?_))))))))
    walk_at "D"
    refine ⟨_, .inl rfl, ?_⟩
    walk_at "D"
    refine ⟨_, _, rfl, rfl, _, rfl, ?_⟩
    rw [List.length_map]
    have e1 : decide (((F.1.length : Nat) : Int) > 1) = decide (F.1.length > 1) := decide_eq_decide.mpr (by omega)
    rw [e1]
    refine ifb (fun hb => ⟨_, rfl, ?_⟩) fun hb => d_one (d_cm (dc_beq (h := ?_)))
    · rw [hb] at q
      exact q
    · rw [hb, Bool.false_or] at q
      walk_at "D"
      refine d_cm (dc_i op_eqI (h := d_len ml (h := ?_)))
      walk_at "D"
      refine ⟨_, .inl rfl, ?_⟩
      walk_at "D"
      refine ⟨_, _, rfl, rfl, _, _, rfl, rfl, _, rfl, ?_⟩
      rw [List.length_map]
      have e2 : decide (((F.1.length : Nat) : Int) = 1) = decide (F.1.length = 1) := decide_eq_decide.mpr (by omega)
      rw [e2]
      exact q
/-! _check_form -/
def c_cf : PCon PyData := fun xs P => ∃ F : Fm, xs = [fD F] ∧ Sm F.1 ∧ isfB F = true ∧ P .none
theorem m_cf : MonP c_cf := fun xs P1 P2 h ⟨cs, e, a, b, q⟩ => ⟨cs, e, a, b, h _ q⟩
theorem sc_cf : FnScope N_isf ["form"] (defScope s_cf) := ⟨rfl, rfl, rfl, by decide +kernel, rfl, by decide +kernel, by decide +kernel⟩
theorem ok_cf (e1 : Cal P w K mg base "is_form" 2 ["form"] (GC K (pcD c_isf))) : ∀ f fd, Fun K "_check_form" "_check_form" s_cf f fd → FnOk P w K mg base CX0 3 f fd ["form"] (GC K (pcD c_cf)) := by
  refine ok_D m_cf (fun xs P1 ⟨_, e, _⟩ => by rw [e]; rfl) sc_cf (by decide) fun f cdv A outer s H E Γ _ hr xs P1 h => ?_
  obtain ⟨F, rfl, hS, hf, q⟩ := h
  refine ds_one (ds_if (dt_not (dt_val (d_callD (calW e1 (hr.mono (by decide))) m_isf (h := ?_)))))
  walk_at "D"
  exact ⟨_, rfl, F, rfl, hS, _, rfl, iff_ (by rw [hf]; rfl) (ds_nil q)⟩
/-! _formed -/
def c_fd : PCon (List PyData) := fun xs P => ∃ (F : Fm) (S : List Ky), xs = [fD F, kL S] ∧ Srt F.1 ∧ F.1.length ≤ 100 ∧ Srt S ∧ S.length ≤ 100 ∧ isfB F = true ∧ P ((fmd F S).map kD)
theorem m_fd : MonP c_fd := fun xs P1 P2 h ⟨F, S, e, a, b, c, d, i, q⟩ => ⟨F, S, e, a, b, c, d, i, h _ q⟩
abbrev N_fd : List Str := ["form", "sorting", "keys", "bound", "made", "columns", "column", "sign", "key"]
theorem sc_fd_ : FnScope N_fd ["form", "sorting"] (defScope s_fd_) := ⟨rfl, rfl, rfl, by decide +kernel, rfl, by decide +kernel, by decide +kernel⟩
def colD : PyData → Option PyData
  | .tuple [.int a, .int b] => some (.int a)
  | _ => none
def outD' (cs : List Int) : PyData → Option PyData
  | .tuple [.int a, .int b] => if (!decide (a ∈ cs)) = true then some (.tuple [.int a, .int b]) else none
  | _ => none
theorem ixN_m1 {n : Nat} (h : 0 < n) : ixN n (-1) = some (n - 1) := by
  unfold ixN
  split
  · split
    · congr 1
      omega
    · omega
  · split
    · congr 1
      omega
    · omega
theorem flp_map {A : List Ky} (h : A ≠ []) : ((A.map kD).set (A.length - 1) (.tuple [.int (lastC A), .int (-(A.getLast?.getD (0, 0)).2)])) = (flp A).map kD := by
  unfold flp lastC
  cases q : A.getLast? with
  | none => rw [List.getLast?_eq_none_iff] at q; exact absurd q h
  | some k =>
    obtain ⟨ys, rfl⟩ := List.getLast?_eq_some_iff.mp q
    simp only [Option.getD_some]
    rw [List.map_append, List.length_append, List.length_singleton, Nat.add_sub_cancel, List.dropLast_concat, List.map_append, List.map_singleton, List.map_singleton]
    rw [List.set_append_right _ _ (by rw [List.length_map]; exact Nat.le_refl _), List.length_map, Nat.sub_self]
    rfl
theorem ok_fd_ (mli : mg "list" = none) : ∀ f fd, Fun K "_formed" "_formed" s_fd_ f fd → FnOk P w K mg base CX0 1 f fd ["form", "sorting"] (GC K (pcL c_fd)) := by
  refine ok_L (fun xs P1 ⟨_, _, e, _⟩ => by rw [e]; rfl) sc_fd_ (by decide) fun f cdv A outer s H E Γ _ hr xs P1 h => ?_
  obtain ⟨⟨A0, b⟩, S, rfl, hA, hAl, hS, hSl, hf, q⟩ := h
  simp only at hA hAl
  refine ds_cons (ds_asg (h := ?_))
  walk_at "D"
  refine ⟨_, rfl, dg_tup rfl (h := dgs_cons (h := dg_name 2 sc_fd_.nd (q := dgs_cons (h := dg_name 3 sc_fd_.nd (q := dgs_nil ?_)))))⟩
  refine ds_cons (ds_set 4 sc_fd_.nd (h := d_list1 mli (h := ?_)))
  walk_at "D"
  refine ⟨_, .inl rfl, rfl, ?_⟩
  have hne : b = true → A0 ≠ [] := fun hb e => by
    subst hb e
    simp [isfB] at hf
  have fS := fl_kL (sm_of hS (by omega : S.length ≤ 300))
  obtain ⟨M, hM⟩ : ∃ M, M = if (b && decide (S.head? = some (lastC A0, 1))) = true then flp A0 else A0 := ⟨_, rfl⟩
  refine ds_join (fun ρ => ρ = [.d (fD (A0, b)), .d (kL S), .d (kL A0), .d (.bool b), .ol (M.map kD), .no, .no, .no, .no]) (ds_if (dt_to (b && decide (S.head? = some (lastC A0, 1))) ?_ ?_)) ?_
  · refine dt_wb (db_and (h := dt_val (h := ?_)))
    walk_at "D"
    refine ⟨_, rfl, ?_⟩
    cases b with
    | false => exact iff_ rfl ⟨rfl, rfl⟩
    | true =>
      obtain ⟨sg, hlast⟩ := lastK (hne rfl)
      refine ift rfl (db_and1 (dt_cm (dc_eq (Nat.lt_of_succ_lt (room65 hr)) (h := d_slice (h := ?_)))))
      walk_at "D"
      refine ⟨_, rfl, _, rfl, _, rfl, ?_⟩
      refine d_lst (da_cons (h := d_tup (da_cons (h := d_ix (h := d_ix (h := ?_))))))
      walk_at "D"
      refine ⟨_, rfl, ?_⟩
      refine ⟨_, _, kD (lastC A0, sg), .inl rfl, rfl, atm (by rw [List.getLast?_map, hlast]; rfl), ?_⟩
      walk_at "D"
      refine ⟨_, _, _, .inr rfl, rfl, at0, ?_⟩
      walk_at "D"
      refine ⟨_, rfl, by show 2 ≤ sizeLine; decide, ?_⟩
      walk_at "D"
      refine ⟨_, rfl, by show 1 ≤ sizeLine; decide, ?_⟩
      have ec : cut (S.map kD) none (some (1 : Int)) = (S.take 1).map kD := by
        rw [cut_map, show (1 : Int) = ((1 : Nat) : Int) from rfl, cut_up]
      rw [ec]
      have hm := List.mem_of_getLast? hlast
      have h1 := hA.rg _ hm
      have eq1 : PyData.eqv (.list ((S.take 1).map kD)) (.list [.tuple [.int (lastC A0), .int 1]]) = decide (S.head? = some (lastC A0, 1)) := by
        have := eqv_kL (S.take 1) [(lastC A0, 1)]
        rw [show PyData.list [PyData.tuple [.int (lastC A0), .int 1]] = kL [(lastC A0, 1)] from rfl, this]
        cases S with
        | nil => simp
        | cons k S => simp
      refine ⟨_, rfl, (fl_kL (sm_of (K := S.take 1) ⟨?_, fun k hk => hS.sg k (List.mem_of_mem_take hk), fun k hk => hS.rg k (List.mem_of_mem_take hk)⟩ (by rw [List.length_take]; omega))).okD, ?_, ?_, rfl⟩
      · exact (List.take_sublist 1 S |>.map Prod.fst).nodup hS.nd
      · exact (fl_kL (K := [(lastC A0, 1)]) ⟨by show 1 ≤ 300; decide, fun k hk => by
          rw [List.mem_singleton.mp hk]
          exact ⟨by simp at h1; show (lastC A0).natAbs ≤ _; omega, by show (1 : Int).natAbs ≤ 100000; decide⟩⟩).okD
      · rw [eq1, Bool.true_and]
  · refine ifb (fun hb => ?_) fun hb => ds_nil ?_
    · have hb' : b = true := (Bool.and_eq_true_iff.mp hb).1
      obtain ⟨sg, hlast⟩ := lastK (hne hb')
      have hlast2 : (A0.map kD).getLast? = some (kD (lastC A0, sg)) := by rw [List.getLast?_map, hlast]; rfl
      refine ds_one (ds_sub 4 (h := d_tup (da_cons (h := d_ix (h := d_ix (h := ?_))))))
      walk_at "D"
      refine ⟨_, rfl, _, _, kD (lastC A0, sg), .inl rfl, rfl, atm hlast2, ?_⟩
      walk_at "D"
      refine ⟨_, _, _, .inr rfl, rfl, at0, ?_⟩
      walk_at "D"
      refine d_ix (h := d_ix (h := ?_))
      walk_at "D"
      refine ⟨_, rfl, _, _, kD (lastC A0, sg), .inl rfl, rfl, atm hlast2, ?_⟩
      walk_at "D"
      refine ⟨_, _, _, .inr rfl, rfl, rfl, _, rfl, ?_⟩
      walk_at "D"
      refine ⟨_, rfl, by show 2 ≤ sizeLine; decide, _, rfl, ?_⟩
      walk_at "D"
      have hpos : 0 < A0.length := List.length_pos_iff.mpr (hne hb')
      refine ⟨_, rfl, _, _, A0.length - 1, rfl, rfl, ?_, ?_⟩
      · rw [List.length_map]
        exact ixN_m1 hpos
      · have e := flp_map (hne hb')
        rw [hlast] at e
        show _ = _
        rw [hM, if_pos hb, ← e]
        rfl
    · rw [hM, if_neg (by rw [hb]; decide)]
      rfl
  rintro ρ' rfl
  have hlM : M.length ≤ 100 := by
    have e : (flp A0).length = A0.length := by
      have := congrArg List.length (cols_flp (A := A0))
      unfold cols at this
      rw [List.length_map, List.length_map] at this
      exact this
    rw [hM]
    split
    · rw [e]; exact hAl
    · exact hAl
  refine ds_cons (ds_set 5 sc_fd_.nd (h := d_lc [("column", 6), ("sign", 7)] sc_fd_.nd (ok := blkOk_by (N := N_fd) (sc := defScope s_fd_) (by decide +kernel)) (h := di_list ?_)))
  walk_at "D"
  refine ⟨_, rfl, LcI.pure colD (by rw [List.length_map]; exact Nat.lt_of_le_of_lt hAl (by decide)) rfl ?_ ?_⟩
  · intro i x hx s H0 C cl fp
    obtain ⟨k, h1, rfl⟩ := get_map hx
    refine dg_tup rfl (h := dgs_cons (h := dg_name 6 sc_fd_.nd (q := dgs_cons (h := dg_name 7 sc_fd_.nd (q := dgs_nil ⟨by decide, ?_⟩)))))
    intro s H0 C cl fp
    refine dts_nil (ift rfl ?_)
    intro s H0 C cl fp
    walk_at "D"
    exact ⟨_, rfl, rfl, rfl⟩
  rw [fm_map2 (f := colD) (g := fun k => .int k.1) A0 fun k _ => rfl]
  rw [show (A0.map fun k => PyData.int k.1) = iL (cols A0) by unfold iL cols; rw [List.map_map]; rfl]
  refine ⟨rfl, ds_freeze 5 rfl ?_⟩
  have fA : Fl (.list (iL (cols A0))) 1 (252 * 100) := fl_iL (fun i hi => by
    obtain ⟨k, hk, rfl⟩ := List.mem_map.mp hi
    have := hA.rg k hk
    exact sml_of (by omega)) (by unfold cols; rw [List.length_map]; exact hAl)
  refine ds_one (ds_ret (d_cat (h := ?_)))
  walk_at "D"
  refine d_lc [("key", 8)] sc_fd_.nd (ok := blkOk_by (N := N_fd) (sc := defScope s_fd_) (by decide +kernel)) (h := di_list ?_)
  walk_at "D"
  refine ⟨_, rfl, LcI.pure (outD' (cols A0)) (by rw [List.length_map]; exact Nat.lt_of_le_of_lt hSl (by decide)) rfl ?_ ?_⟩
  · intro i x hx s H0 C cl fp
    obtain ⟨k, h1, rfl⟩ := get_map hx
    have h2 := hS.rg k (List.mem_of_getElem? h1)
    refine dg_name 8 sc_fd_.nd (q := ⟨by decide, ?_⟩)
    intro s H0 C cl fp
    refine dts_one (dt_cm (dc_notin (room65 hr) (h := d_ix (h := ?_))))
    walk_at "D"
    refine ⟨_, _, _, .inr rfl, rfl, rfl, _, rfl, ?_⟩
    walk_at "D"
    refine ⟨_, rfl, (fl_int (sml_of (by omega))).okD, fA.okD, ?_⟩
    rw [any_iL]
    refine ifb (fun hb => ?_) fun hb => ⟨?_, rfl⟩
    · intro s H0 C cl fp
      walk_at "D"
      exact ⟨_, rfl, if_pos hb, rfl⟩
    · exact if_neg (by rw [hb]; decide)
  rw [fm_map2f (f := outD' (cols A0)) (p := fun k => !decide (k.1 ∈ cols A0)) (g := kD) S fun k _ => rfl]
  have hlf : (S.filter fun k => !decide (k.1 ∈ cols A0)).length ≤ S.length := List.length_filter_le _ _
  refine ⟨_, _, rfl, rfl, ?_, _, rfl, ?_⟩
  · rw [List.length_map, List.length_map]
    exact Nat.le_trans (by omega : _ ≤ 1000) (by decide)
  rw [← List.map_append, hM]
  exact q
end
end K09
namespace K09
open PySem L2 Evl Lw Dw
section
variable {P : Program} {w : World} {K : PySem.W.Frag} {mg : Str → Option Value} {base : Heap}
/-! formed -/
theorem sc_fd : FnScope ["form", "sorting"] ["form", "sorting"] (defScope s_fd) := ⟨rfl, rfl, rfl, by decide +kernel, rfl, by decide +kernel, by decide +kernel⟩
theorem ok_fd (e1 : Cal P w K mg base "_check_form" 3 ["form"] (GC K (pcD c_cf))) (e2 : Cal P w K mg base "check_keys" 2 ["sorting"] (GC K (pcD c_ck))) (e3 : Cal P w K mg base "_formed" 1 ["form", "sorting"] (GC K (pcL c_fd))) :
    ∀ f fd, Fun K "formed" "formed" s_fd f fd → FnOk P w K mg base CX0 4 f fd ["form", "sorting"] (GC K (pcL c_fd)) := by
  refine ok_L (fun xs P1 ⟨_, _, e, _⟩ => by rw [e]; rfl) sc_fd (by decide) fun f cdv A outer s H E Γ _ hr xs P1 h => ?_
  obtain ⟨F, S, rfl, hA, hAl, hS, hSl, hf, q⟩ := h
  refine ds_cons (ds_expr (h := d_callD (calW e1 (hr.mono (by decide))) m_cf (h := ?_)))
  walk_at "D"
  refine ⟨_, rfl, F, rfl, sm_of hA (by omega), hf, ?_⟩
  refine ds_cons (ds_expr (h := d_callD (calW e2 (hr.mono (by decide))) m_ck (h := ?_)))
  walk_at "D"
  refine ⟨_, rfl, S, rfl, hS, by omega, ?_⟩
  refine ds_one (ds_ret (d_callL (calW e3 (hr.mono (by decide))) m_fd (h := ?_)))
  walk_at "D"
  exact ⟨_, rfl, F, S, rfl, hA, hAl, hS, hSl, hf, _, rfl, q⟩
/-! alike -/
def c_al : PCon PyData := fun xs P => ∃ cs ds, xs = [.list (iL cs), .list (iL ds)] ∧ Cl cs ∧ Cl ds ∧ P (.bool (decide (fm cs = fm ds)))
theorem m_al : MonP c_al := fun xs P1 P2 h ⟨cs, ds, e, a, b, q⟩ => ⟨cs, ds, e, a, b, h _ q⟩
theorem sc_al : FnScope ["one", "other"] ["one", "other"] (defScope s_al) := ⟨rfl, rfl, rfl, by decide +kernel, rfl, by decide +kernel, by decide +kernel⟩
theorem ok_al (e1 : Cal P w K mg base "form_of" 3 ["clicks"] (GC K (pcD c_fo))) : ∀ f fd, Fun K "alike" "alike" s_al f fd → FnOk P w K mg base CX0 4 f fd ["one", "other"] (GC K (pcD c_al)) := by
  refine ok_D m_al (fun xs P1 ⟨_, _, e, _⟩ => by rw [e]; rfl) sc_al (by decide) fun f cdv A outer s H E Γ _ hr xs P1 h => ?_
  obtain ⟨cs, ds, rfl, hc, hd, q⟩ := h
  refine ds_one (ds_ret (d_cm (dc_eq (Nat.lt_of_succ_lt (room65 hr)) (h := d_callD (calW e1 hr) m_fo (h := ?_)))))
  walk_at "D"
  refine ⟨_, rfl, cs, rfl, hc, _, rfl, d_callD (calW e1 hr) m_fo (h := ?_)⟩
  walk_at "D"
  refine ⟨_, rfl, ds, rfl, hd, _, rfl, (fl_fD (fm_sm hc)).okD, (fl_fD (fm_sm hd)).okD, _, rfl, ?_⟩
  rw [eqv_fD]
  exact q
/-! first_apart -/
def faB (cs ds : List Int) : Option (List Ky) := if (fm cs).1 = (fm ds).1 then (if (fm cs).2 = (fm ds).2 then none else some [(lastC (fm cs).1, 1)]) else some []
def oK : Option (List Ky) → PyData
  | none => .none
  | some S => kL S
def c_fa : PCon PyData := fun xs P => ∃ cs ds, xs = [.list (iL cs), .list (iL ds)] ∧ Cl cs ∧ Cl ds ∧ P (oK (faB cs ds))
theorem m_fa : MonP c_fa := fun xs P1 P2 h ⟨cs, ds, e, a, b, q⟩ => ⟨cs, ds, e, a, b, h _ q⟩
abbrev N_fa : List Str := ["one", "other", "keys", "bound", "others", "other_bound"]
theorem sc_fa : FnScope N_fa ["one", "other"] (defScope s_fa) := ⟨rfl, rfl, rfl, by decide +kernel, rfl, by decide +kernel, by decide +kernel⟩
theorem ok_fa (e1 : Cal P w K mg base "form_of" 3 ["clicks"] (GC K (pcD c_fo))) : ∀ f fd, Fun K "first_apart" "first_apart" s_fa f fd → FnOk P w K mg base CX0 4 f fd ["one", "other"] (GC K (pcD c_fa)) := by
  refine ok_D m_fa (fun xs P1 ⟨_, _, e, _⟩ => by rw [e]; rfl) sc_fa (by decide) fun f cdv A outer s H E Γ _ hr xs P1 h => ?_
  obtain ⟨cs, ds, rfl, hc, hd, q⟩ := h
  refine ds_cons (ds_asg (h := d_callD (calW e1 hr) m_fo (h := ?_)))
  walk_at "D"
  refine ⟨_, rfl, cs, rfl, hc, _, rfl, dg_tup rfl (h := dgs_cons (h := dg_name 2 sc_fa.nd (q := dgs_cons (h := dg_name 3 sc_fa.nd (q := dgs_nil ?_)))))⟩
  refine ds_cons (ds_asg (h := d_callD (calW e1 hr) m_fo (h := ?_)))
  walk_at "D"
  refine ⟨_, rfl, ds, rfl, hd, _, rfl, dg_tup rfl (h := dgs_cons (h := dg_name 4 sc_fa.nd (q := dgs_cons (h := dg_name 5 sc_fa.nd (q := dgs_nil ?_)))))⟩
  refine ds_cons (ds_if (dt_cm (dc_ne (Nat.lt_of_succ_lt (room65 hr)) (h := ?_))))
  walk_at "D"
  refine ⟨_, rfl, ?_⟩
  walk_at "D"
  refine ⟨_, rfl, (fl_kL (fm_sm hc)).okD, (fl_kL (fm_sm hd)).okD, ?_⟩
  rw [eqv_kL]
  unfold faB at q
  by_cases h1 : (fm cs).1 = (fm ds).1
  · rw [if_pos h1] at q
    refine iff_ (by rw [decide_eq_true h1]; rfl) (ds_nil (ds_one (ds_ret (d_if (dt_cm (dc_beq (h := ?_)))))))
    walk_at "D"
    refine ⟨_, _, rfl, rfl, ?_⟩
    by_cases h2 : (fm cs).2 = (fm ds).2
    · rw [if_pos h2] at q
      refine ift (by rw [h2]; exact beq_self_eq_true _) ?_
      walk_at "D"
      exact ⟨_, rfl, q⟩
    · rw [if_neg h2] at q
      have hne : (fm cs).1 ≠ [] := fun e => by
        have e3 := (jn cs).n.mp e
        rw [e] at h1
        have e4 := (jn ds).n.mp h1.symm
        rw [e3, e4] at h2
        exact h2 rfl
      obtain ⟨sg, hlast⟩ := lastK hne
      refine iff_ (beq_eq_false_iff_ne.mpr h2) (d_lst (da_cons (h := d_tup (da_cons (h := d_ix (h := d_ix (h := ?_)))))))
      walk_at "D"
      refine ⟨_, rfl, _, _, kD (lastC (fm cs).1, sg), .inl rfl, rfl, atm (by rw [List.getLast?_map, hlast]; rfl), ?_⟩
      walk_at "D"
      refine ⟨_, _, _, .inr rfl, rfl, at0, ?_⟩
      walk_at "D"
      refine ⟨_, rfl, by show 2 ≤ sizeLine; decide, ?_⟩
      walk_at "D"
      exact ⟨_, rfl, by show 1 ≤ sizeLine; decide, _, rfl, q⟩
  · rw [if_neg h1] at q
    refine ift (by rw [decide_eq_false h1]; rfl) (ds_one (ds_ret ?_))
    walk_at "D"
    exact ⟨_, rfl, by show 0 ≤ sizeLine; decide, _, rfl, q⟩
/-! _law_open -/
structure JOk (n : Nat) (b c : Int) : Prop where
  b0 : 0 ≤ b
  b : b < 2 ^ 140
  c0 : 0 ≤ c
  c : c + (n : Nat) ≤ 1000000
theorem JOk.le {n m : Nat} {b c : Int} (h : JOk n b c) (l : m ≤ n) : JOk m b c := ⟨h.b0, h.b, h.c0, by have := h.c; omega⟩
abbrev J3 (a b c : Int) : List PyData := [.int a, .int b, .int c]
def c_op : PCon (List PyData) := fun xs P => ∃ (ns : List Int) (i : Nat), xs = [.list (iL ns), .int (i : Nat)] ∧ i ≤ 100 ∧ ∀ a b, JOk 900000 b 0 → P (J3 a b 0)
theorem m_op : MonP c_op := fun xs P1 P2 h ⟨t, m, e, h1, q⟩ => ⟨t, m, e, h1, fun a b hj => h _ (q a b hj)⟩
abbrev N_op : List Str := ["_law_script", "_law_k", "_law_cell", "_law_seed"]
theorem sc_op : FnScope N_op ["_law_script", "_law_k"] (defScope s_op) := ⟨rfl, rfl, rfl, by decide +kernel, rfl, by decide +kernel, by decide +kernel⟩
theorem ok_op (ml : mg "len" = none) (mm : mg "max" = none) (mi : mg "int" = none) (ma : mg "abs" = none) : ∀ f fd, Fun K "_law_open" "_law_open" s_op f fd → FnOk P w K mg base CX0 1 f fd ["_law_script", "_law_k"] (GC K (pcL c_op)) := by
  refine ok_L (fun xs P1 ⟨_, _, e, _⟩ => by rw [e]; rfl) sc_op (by decide) fun f cdv A outer s H E Γ _ hr xs P1 h => ?_
  obtain ⟨ns, i, rfl, hi, q⟩ := h
  refine ds_cons (ds_set 2 sc_op.nd (h := ?_))
  walk_at "D"
  refine ⟨rfl, ds_join (fun ρ => ∃ c : Int, ρ = [.d (.list (iL ns)), .d (.int (i : Nat)), .d (.int c), .no]) (ds_if (dt_cm (dc_i op_lt (h := ?_)))) ?_⟩
  · walk_at "D"
    refine d_len ml (h := ?_)
    walk_at "D"
    refine ⟨_, .inl rfl, _, _, rfl, rfl, ifd (fun h => ?_) fun _ => ds_nil ⟨0, rfl⟩⟩
    rw [List.length_map] at h
    refine ds_one (ds_set 2 sc_op.nd (h := d_ix (h := ?_)))
    walk_at "D"
    have e : ns[i]? = some (ns[i]'(by omega)) := List.getElem?_eq_getElem (by omega)
    exact ⟨_, _, _, .inl rfl, rfl, atI_nat (by rw [List.getElem?_map, e]; rfl), rfl, _, rfl⟩
  · rintro ρ' ⟨c, rfl⟩
    refine ds_cons (ds_set 3 sc_op.nd (h := d_add (h := d_add (h := d_mod (h := d_int1 mi (h := d_add (h := d_mulN (h := ?_))))))))
    walk_at "D"
    refine d_abs ma (h := ?_)
    walk_at "D"
    refine ⟨_, rfl, 2, c.natAbs, rfl, rfl, by decide, ?_⟩
    refine d_int1 mi (h := d_cm (dc_i op_lt (h := ?_)))
    walk_at "D"
    refine ⟨_, _, rfl, rfl, _, .inr ⟨_, rfl, rfl⟩, _, _, rfl, rfl, _, .inl rfl, ?_⟩
    refine d_add (h := d_pow (h := ?_))
    walk_at "D"
    refine ⟨_, _, rfl, rfl, ⟨by decide, by decide⟩, ?_⟩
    walk_at "D"
    walk_at "ii"
    refine ⟨_, _, rfl, rfl, by decide, d_mul (h := ?_)⟩
    walk_at "D"
    refine ⟨_, _, rfl, rfl, wide_mul (a := 30) (b := 30) (by decide) (by omega) (by decide) (by decide) (by decide), ?_⟩
    walk_at "ii"
    walk_at "D"
    walk_at "ii"
    refine ⟨rfl, ds_one (ds_ret (d_lst (da_cons (h := d_max2 mm (h := ?_)))))⟩
    walk_at "D"
    refine d_sub (h := ?_)
    walk_at "D"
    refine d_pow (h := ?_)
    walk_at "D"
    refine ⟨_, _, rfl, rfl, ⟨by decide, by decide⟩, ?_⟩
    walk_at "ii"
    walk_at "D"
    refine ⟨_, _, rfl, ?_⟩
    walk_at "D"
    refine ⟨_, rfl, by show 3 ≤ sizeLine; decide, _, rfl, ?_⟩
    have e1 : (10 : Int) ^ (39 : Int).toNat + 3 = 1000000000000000000000000000000000000003 := by decide
    have e2 : (2 : Int) ^ 140 = 1393796574908163946345982392040522594123776 := by decide
    rw [e1]
    refine q _ _ ⟨?_, ?_, by decide, by decide⟩
    · refine Int.add_nonneg (Int.add_nonneg (Int.emod_nonneg _ (by decide)) ?_) (by decide)
      omega
    · rw [e2]
      have := Int.emod_lt_of_pos (((2 * c.natAbs : Nat) : Int) + if decide (c < 0) = true then 1 else 0) (b := 1000000000000000000000000000000000000003) (by decide)
      omega
end
end K09
namespace K09
open PySem L2 Evl Lw Dw
section
variable {P : Program} {w : World} {K : PySem.W.Frag} {mg : Str → Option Value} {base : Heap}
/-! _law_draw -/
def c_dr : ACon PyData := fun s xs P => ∃ (a b c m : Int) (n : Nat), s = .pl (J3 a b c) ∧ xs = [.int m] ∧ JOk (n + 1) b c ∧ 0 < m ∧ m < 100000 ∧ ∀ k a' b' c', 0 ≤ k → k < m → JOk n b' c' → P (.int k) (.pl (J3 a' b' c'))
theorem m_dr : MonA c_dr := fun s xs P1 P2 h ⟨a, b, c, m, n, e1, e2, h1, h2, h3, q⟩ => ⟨a, b, c, m, n, e1, e2, h1, h2, h3, fun k a' b' c' k1 k2 k3 => h _ _ (q k a' b' c' k1 k2 k3)⟩
abbrev N_dr : List Str := ["_law_deck", "_law_many", "_law_taken", "_law_stir"]
theorem sc_dr : FnScope N_dr ["_law_deck", "_law_many"] (defScope s_dr) := ⟨rfl, rfl, rfl, by decide +kernel, rfl, by decide +kernel, by decide +kernel⟩
theorem nlt {a : Nat} {i : Int} (h0 : 0 ≤ i) (h : i < 2 ^ a) : i.natAbs < 2 ^ a := by
  have : ((i.natAbs : Nat) : Int) < ((2 ^ a : Nat) : Int) := by rw [Int.natCast_pow]; show ((i.natAbs : Nat) : Int) < 2 ^ a; omega
  exact Int.ofNat_lt.mp this
theorem ok_dr (mi : mg "int" = none) : ∀ f fd, Fun K "_law_draw" "_law_draw" s_dr f fd → FnOk P w K mg base CX0 1 f fd ["_law_deck", "_law_many"] (GC K (pcA c_dr)) := by
  refine ok_A m_dr (fun s xs P1 ⟨_, _, _, _, _, e1, e2, _⟩ => by rw [e2]; rfl) sc_dr (by decide) fun f cdv A outer s H E Γ _ hr s0 xs P1 _ h => ?_
  obtain ⟨a, b, c, m, n, rfl, rfl, hj, hm, hm2, q⟩ := h
  have cd : CDivW a m := wide_div (b := 250) hm (Nat.lt_of_lt_of_le (by omega : m.natAbs < 100000) (by decide)) (by decide) (by decide)
  have hb0 := hj.b0
  have hb := hj.b
  have hc := hj.c
  have hc0 := hj.c0
  have hbn : b.natAbs < 2 ^ 140 := nlt hb0 hb
  refine ds_cons (ds_if (dt_cm (dc_i op_gt (h := d_ix (h := ?_)))))
  walk_at "D"
  refine ⟨_, _, _, .inl rfl, rfl, rfl, ?_⟩
  walk_at "D"
  refine ⟨_, _, rfl, rfl, ifd (fun _ => ?_) fun _ => ds_nil ?_⟩
  · refine ds_cons (ds_set 2 sc_dr.nd (h := d_mod (h := d_int1 mi (h := d_ix (h := ?_)))))
    walk_at "D"
    refine ⟨_, _, _, .inl rfl, rfl, rfl, _, .inl rfl, ?_⟩
    walk_at "D"
    refine ⟨_, _, rfl, rfl, hm, rfl, ds_cons (ds_subP 0 (h := d_fdiv (h := d_ix (h := ?_))))⟩
    walk_at "D"
    refine ⟨_, _, _, .inl rfl, rfl, rfl, ?_⟩
    walk_at "D"
    refine ⟨_, _, rfl, rfl, cd, _, rfl, ?_⟩
    walk_at "D"
    refine ⟨_, _, 0, rfl, rfl, rfl, ds_one (ds_ret ?_)⟩
    walk_at "D"
    exact ⟨_, _, rfl, rfl, rfl, q _ _ _ _ (Int.emod_nonneg _ (by omega)) (Int.emod_lt_of_pos _ hm) (hj.le (by omega))⟩
  · refine ds_cons (ds_subP 0 (h := d_add (h := d_ix (h := ?_))))
    walk_at "D"
    refine ⟨_, _, _, .inl rfl, rfl, rfl, ?_⟩
    walk_at "D"
    refine ⟨_, _, rfl, rfl, _, rfl, ?_⟩
    walk_at "D"
    refine ⟨_, _, 2, rfl, rfl, rfl, ?_⟩
    have sm : ∀ i j : Int, i.natAbs < 2 ^ 140 → j.natAbs < 2 ^ 140 → CMulW i j := fun i j h1 h2 => wide_mul (a := 140) (b := 140) h1 h2 (by decide) (by decide) (by decide)
    have lt30 : ∀ i : Int, i.natAbs < 10000000000 → i.natAbs < 2 ^ 140 := fun i h => Nat.lt_of_lt_of_le h (by decide)
    have h2c : (48611 + 2 * (c + 1)).natAbs < 2 ^ 140 := lt30 _ (by omega)
    have hcc : (c + 1).natAbs < 2 ^ 140 := lt30 _ (by omega)
    have h104 : (104729 * (c + 1)).natAbs < 2 ^ 140 := Nat.lt_of_lt_of_le (by omega : (104729 * (c + 1)).natAbs < 1000000000000) (by decide)
    refine ds_cons (ds_set 3 sc_dr.nd (h := d_mod (h := d_int1 mi (h := d_add (h := d_mul (h := d_ix (h := ?_)))))))
    walk_at "D"
    refine ⟨_, _, _, .inl rfl, rfl, rfl, d_add (h := ?_)⟩
    walk_at "D"
    refine d_mul (h := ?_)
    walk_at "D"
    refine d_ix (h := ?_)
    walk_at "D"
    refine ⟨_, _, _, .inl rfl, rfl, rfl, _, _, rfl, rfl, sm _ _ (by decide) hcc, ?_⟩
    walk_at "ii"
    refine ⟨_, _, rfl, rfl, sm _ _ hbn h2c, d_mul (h := d_mul (h := ?_))⟩
    walk_at "D"
    refine d_ix (h := ?_)
    walk_at "D"
    refine ⟨_, _, _, .inl rfl, rfl, rfl, _, _, rfl, rfl, sm _ _ (by decide) hcc, d_ix (h := ?_)⟩
    walk_at "D"
    refine ⟨_, _, _, .inl rfl, rfl, rfl, _, _, rfl, rfl, sm _ _ h104 hcc, ?_⟩
    walk_at "ii"
    refine ⟨_, .inl rfl, ?_⟩
    walk_at "D"
    refine ⟨_, _, rfl, rfl, by decide, rfl, ?_⟩
    have r1 := Int.emod_nonneg (b * (48611 + 2 * (c + 1)) + 104729 * (c + 1) * (c + 1)) (b := 1000000000000000003) (by decide)
    have r2 := Int.emod_lt_of_pos (b * (48611 + 2 * (c + 1)) + 104729 * (c + 1) * (c + 1)) (b := 1000000000000000003) (by decide)
    generalize (b * (48611 + 2 * (c + 1)) + 104729 * (c + 1) * (c + 1)) % 1000000000000000003 = m1 at r1 r2 ⊢
    have hm1 : m1.natAbs < 2 ^ 140 := Nat.lt_of_lt_of_le (by omega : m1.natAbs < 1000000000000000003) (by decide)
    refine ds_cons (ds_set 3 sc_dr.nd (h := d_mod (h := d_int1 mi (h := d_add (h := d_add (h := d_mul (h := ?_)))))))
    walk_at "D"
    refine ⟨_, _, rfl, rfl, sm _ _ hm1 hm1, d_mul (h := ?_)⟩
    walk_at "D"
    refine d_ix (h := ?_)
    walk_at "D"
    refine ⟨_, _, _, .inl rfl, rfl, rfl, _, _, rfl, rfl, sm _ _ (by decide) hcc, ?_⟩
    walk_at "ii"
    refine d_ix (h := ?_)
    walk_at "D"
    refine ⟨_, _, _, .inl rfl, rfl, rfl, ?_⟩
    walk_at "ii"
    refine ⟨_, .inl rfl, ?_⟩
    walk_at "D"
    refine ⟨_, _, rfl, rfl, by decide, rfl, ?_⟩
    have r3 := Int.emod_nonneg (m1 * m1 + 611953 * (c + 1) + b) (b := 2305843009213693951) (by decide)
    have r4 := Int.emod_lt_of_pos (m1 * m1 + 611953 * (c + 1) + b) (b := 2305843009213693951) (by decide)
    generalize (m1 * m1 + 611953 * (c + 1) + b) % 2305843009213693951 = m2 at r3 r4 ⊢
    have e62 : (2 : Int) ^ 62 = 4611686018427387904 := by decide
    have hm2' : m2.natAbs < 2 ^ 62 := nlt r3 (by rw [e62]; omega)
    have hm2b : m2.natAbs < 2 ^ 140 := Nat.lt_of_lt_of_le hm2' (Nat.pow_le_pow_right (by decide) (by decide))
    have hmm : (m2 * m2).natAbs < 2 ^ 140 := by
      rw [Int.natAbs_mul]
      exact Nat.lt_of_lt_of_le (Nat.mul_lt_mul'' hm2' hm2') (by rw [← Nat.pow_add]; exact Nat.pow_le_pow_right (by decide) (by decide))
    refine ds_cons (ds_set 3 sc_dr.nd (h := d_mod (h := d_int1 mi (h := d_add (h := d_mul (h := d_mul (h := ?_)))))))
    walk_at "D"
    refine ⟨_, _, rfl, rfl, sm _ _ hm2b hm2b, ?_⟩
    walk_at "D"
    refine ⟨_, _, rfl, rfl, sm _ _ hmm hm2b, d_mul (h := ?_)⟩
    walk_at "D"
    refine d_ix (h := ?_)
    walk_at "D"
    refine ⟨_, _, _, .inl rfl, rfl, rfl, _, _, rfl, rfl, sm _ _ (by decide) hcc, ?_⟩
    walk_at "ii"
    refine ⟨_, .inl rfl, ?_⟩
    walk_at "D"
    refine ⟨_, _, rfl, rfl, by decide, rfl, ?_⟩
    refine ds_one (ds_ret (d_mod (h := d_int1 mi (h := d_fdiv (h := ?_)))))
    walk_at "D"
    refine ⟨_, _, rfl, rfl, ⟨by decide, by decide⟩, _, .inl rfl, ?_⟩
    walk_at "D"
    refine ⟨_, _, rfl, rfl, hm, _, _, rfl, rfl, rfl, q _ _ _ _ (Int.emod_nonneg _ (by omega)) (Int.emod_lt_of_pos _ hm) ⟨hb0, hb, by omega, by omega⟩⟩
end
end K09
namespace K09
open PySem L2 Evl Lw Dw
section
variable {P : Program} {w : World} {K : PySem.W.Frag} {mg : Str → Option Value} {base : Heap}
/-- columns drawn -/
def Dr (wd m : Nat) (cs : List Int) : Prop := cs.length ≤ m ∧ ∀ c ∈ cs, 0 ≤ c ∧ c < wd
theorem Dr.cl {wd m : Nat} {cs : List Int} (h : Dr wd m cs) (hw : wd ≤ 1000) (hm : m ≤ 100) : Cl cs := ⟨Nat.le_trans h.1 hm, fun c hc => by have := h.2 c hc; omega⟩
theorem fl_any {cs : List Int} (h : Cl cs) : okD (.list (iL cs)) = true := (fl_cs h).okD
/-! _law_clicks -/
def c_cl : ACon (List PyData) := fun s xs P => ∃ (a b c : Int) (wd m n : Nat), s = .pl (J3 a b c) ∧ xs = [.int (wd : Nat), .int (m : Nat)] ∧ 0 < wd ∧ wd ≤ 1000 ∧ m ≤ 60 ∧ JOk (n + 2 * m + 1) b c ∧
  ∀ (cs : List Int) a' b' c', Dr wd m cs → JOk n b' c' → P (iL cs) (.pl (J3 a' b' c'))
theorem m_cl : MonA c_cl := fun s xs P1 P2 h ⟨a, b, c, z, m, n, e1, e2, h1, h2, h3, h4, q⟩ => ⟨a, b, c, z, m, n, e1, e2, h1, h2, h3, h4, fun cs a' b' c' k1 k2 => h _ _ (q cs a' b' c' k1 k2)⟩
abbrev N_cl : List Str := ["_law_deck", "_law_width", "_law_most", "_law_found", "_law_turn", "_law_column"]
theorem sc_cl : FnScope N_cl ["_law_deck", "_law_width", "_law_most"] (defScope s_cl) := ⟨rfl, rfl, rfl, by decide +kernel, rfl, by decide +kernel, by decide +kernel⟩
theorem ok_cl (mr : mg "range" = none) (e1 : Cal P w K mg base "_law_draw" 1 ["_law_deck", "_law_many"] (GC K (pcA c_dr))) : ∀ f fd, Fun K "_law_clicks" "_law_clicks" s_cl f fd → FnOk P w K mg base CX0 2 f fd ["_law_deck", "_law_width", "_law_most"] (GC K (pcAL c_cl)) := by
  refine ok_AL (fun s xs P1 ⟨_, _, _, _, _, _, _, e, _⟩ => by rw [e]; rfl) sc_cl (by decide) fun f cdv A outer s H E Γ _ hr s0 xs P1 _ h => ?_
  obtain ⟨a, b, c, wd, m, n, rfl, rfl, hw0, hw, hm, hj, q⟩ := h
  refine ds_cons (ds_set 3 sc_cl.nd (h := ?_))
  walk_at "D"
  refine ⟨_, rfl, by decide, rfl, ?_⟩
  refine ds_cons (ds_for (fun i ρ => ∃ (cs : List Int) (a b c : Int) (t u : Sl) (j : Nat), ρ = [.pl (J3 a b c), .d (.int (wd : Nat)), .d (.int (m : Nat)), .ol (iL cs), t, u] ∧ cs.length = i ∧ (∀ c ∈ cs, 0 ≤ c ∧ c < wd) ∧ JOk (n + 2 * j) b c ∧ i + j = m) (h := di_rng1 mr (h := d_callAD 0 (calW e1 (hr.mono (by decide))) m_dr (h := da_cons (h := d_add (h := ?_))))))
  walk_at "D"
  walk_at "ii"
  walk_at "D"
  refine ⟨_, _, rfl, rfl, rfl, a, b, c, _, n + 2 * m, rfl, rfl, hj, by omega, by omega, fun k a b c k0 k1 hj => ?_⟩
  obtain ⟨cnt, rfl⟩ : ∃ cnt : Nat, k = (cnt : Nat) := ⟨k.toNat, by omega⟩
  refine ⟨_, rfl, by omega, by omega, ⟨[], a, b, c, .no, .no, m, rfl, rfl, by simp, hj, by omega⟩, ?_, ?_⟩
  · rintro i x ρ2 hx ⟨cs, a, b, c, t, u, j, rfl, hl, hin, hj, hij⟩ F
    obtain ⟨hi, rfl⟩ := rng_at hx
    rw [Int.toNat_natCast] at hi
    refine dg_name 4 sc_cl.nd (q := ds_cons (ds_set 5 sc_cl.nd (h := d_callAD 0 (calW e1 (hr.mono (by decide))) m_dr (h := ?_))))
    walk_at "D"
    refine ⟨_, _, rfl, rfl, rfl, a, b, c, _, n + (2 * (j - 1) + 1), rfl, rfl, hj.le (by omega), by omega, by omega, fun col a b c k0 k1 hj => ⟨rfl, ?_⟩⟩
    have hC : Cl cs := ⟨by omega, fun c hc => by have := hin c hc; omega⟩
    refine ds_join (fun ρ => ∃ (a b c col : Int), ρ = [.pl (J3 a b c), .d (.int (wd : Nat)), .d (.int (m : Nat)), .ol (iL cs), .d (.int (0 + (i : Nat))), .d (.int col)] ∧ 0 ≤ col ∧ col < wd ∧ JOk (n + 2 * (j - 1)) b c) (ds_if (dt_wb (db_and (h := dt_cm (dc_neL (Nat.lt_of_succ_lt (room65 hr)) (h := ?_)))))) ?_
    · walk_at "D"
      refine ⟨_, rfl, by show 0 ≤ sizeLine; decide, _, _, rfl, rfl, fl_any hC, rfl, ?_⟩
      rw [PyData.eqv, show ([] : List PyData) = iL [] from rfl, eqvA_iL]
      refine ifb (fun hne => ?_) fun hne => iff_ rfl (ds_nil ⟨a, b, c, col, rfl, k0, k1, hj.le (by omega)⟩)
      refine db_and1 (dt_cm (dc_i op_eqI (h := d_callAD 0 (calW e1 (hr.mono (by decide))) m_dr (h := ?_))))
      walk_at "D"
      refine ⟨_, _, rfl, rfl, rfl, a, b, c, _, n + 2 * (j - 1), rfl, rfl, hj.le (by omega), by decide, by decide, fun k2 a b c p0 p1 hj => ?_⟩
      walk_at "D"
      refine ⟨_, _, rfl, rfl, ifd (fun _ => ?_) fun _ => ds_nil ⟨a, b, c, col, rfl, k0, k1, hj⟩⟩
      have hne' : cs ≠ [] := fun z => by rw [z] at hne; simp at hne
      obtain ⟨l, hlast⟩ : ∃ l, cs.getLast? = some l := by
        cases q2 : cs.getLast? with
        | none => rw [List.getLast?_eq_none_iff] at q2; exact absurd q2 hne'
        | some l => exact ⟨l, rfl⟩
      have hml := hin l (List.mem_of_getLast? hlast)
      refine ds_one (ds_set 5 sc_cl.nd (h := d_ix (h := ?_)))
      walk_at "D"
      exact ⟨_, rfl, _, _, .int l, .inl rfl, rfl, atm (by rw [List.getLast?_map, hlast]; rfl), rfl, a, b, c, l, rfl, hml.1, hml.2, hj⟩
    · rintro ρ' ⟨a, b, c, col, rfl, k0, k1, hj⟩
      refine ds_one (ds_expr (h := d_append 3 (h := ?_)))
      walk_at "D"
      refine ⟨_, _, rfl, rfl, ?_, cs ++ [col], a, b, c, .d (.int (0 + (i : Nat))), .d (.int col), j - 1, by rw [← app_iL]; rfl, by rw [List.length_append, hl]; rfl, ?_, hj, by omega⟩
      · rw [List.length_map]
        exact Nat.lt_of_le_of_lt (by omega : cs.length ≤ 60) (by decide)
      · intro d hd
        rcases List.mem_append.mp hd with h | h
        · exact hin d h
        · rw [List.mem_singleton.mp h]; exact ⟨k0, k1⟩
  · rintro ρ2 ⟨cs, a, b, c, t, u, j, rfl, hl, hin, hj, hij⟩
    rw [rng_len, Int.toNat_natCast] at hl
    refine ds_one (ds_retO 3 (q := ?_))
    exact ⟨_, _, rfl, rfl, rfl, q cs a b c ⟨by omega, hin⟩ (hj.le (by omega))⟩
/-! _law_click -/
def c_clk : PCon (List PyData) := fun xs P => ∃ (S : List Ky) (c : Int), xs = [kL S, .int c] ∧ Sm S ∧ P ((clk S c).map kD)
theorem m_clk : MonP c_clk := fun xs P1 P2 h ⟨S, c, e, a, q⟩ => ⟨S, c, e, a, h _ q⟩
abbrev N_clk : List Str := ["_law_keys_here", "_law_column", "_law_key"]
theorem sc_clk : FnScope N_clk ["_law_keys_here", "_law_column"] (defScope s_clk) := ⟨rfl, rfl, rfl, by decide +kernel, rfl, by decide +kernel, by decide +kernel⟩
theorem ok_clk : ∀ f fd, Fun K "_law_click" "_law_click" s_clk f fd → FnOk P w K mg base CX0 1 f fd ["_law_keys_here", "_law_column"] (GC K (pcL c_clk)) := by
  refine ok_L (fun xs P1 ⟨_, _, e, _⟩ => by rw [e]; rfl) sc_clk (by decide) fun f cdv A outer s H E Γ _ hr xs P1 h => ?_
  obtain ⟨S, c, rfl, hS, q⟩ := h
  have hl := hS.1
  refine ds_cons (ds_if (dt_to (match S with | [] => false | k :: _ => decide (k.1 = c)) ?_ ?_))
  · refine dt_wb (db_and (h := dt_cm (dc_neL (Nat.lt_of_succ_lt (room65 hr)) (h := ?_))))
    walk_at "D"
    refine ⟨_, rfl, by show 0 ≤ sizeLine; decide, _, _, rfl, rfl, (fl_kL hS).okD, rfl, ?_⟩
    rw [show PyData.list ([] : List PyData) = kL [] from rfl, eqv_kL]
    cases S with
    | nil => exact iff_ (by simp) ⟨rfl, rfl⟩
    | cons k S =>
      refine ift (by simp) (db_and1 (dt_cm (dc_i op_eqI (h := d_ix (h := d_ix (h := ?_))))))
      walk_at "D"
      refine ⟨_, _, kD k, .inl rfl, rfl, at0, ?_⟩
      walk_at "D"
      refine ⟨_, _, _, .inr rfl, rfl, rfl, ?_⟩
      walk_at "D"
      exact ⟨_, _, rfl, rfl, rfl, rfl⟩
  have other : ∀ (S : List Ky), S.length ≤ 300 → P1 (((c, 1) :: S.filter (ne c)).map kD) → DSs (cxOf CX0 P w K mg base N_clk "_law_click" (defScope s_clk) f cdv A outer s H E).nox Γ (List.drop 1 (defBody s_clk)) [.d (kL S), .d (.int c), .no] (outL P1) := fun S hl q => by
    have hlf : (S.filter (ne c)).length ≤ S.length := List.length_filter_le _ _
    refine ds_one (ds_ret (d_cat (h := d_lst (da_cons (h := d_tup (h := ?_))))))
    walk_at "D"
    refine ⟨_, rfl, by show 2 ≤ sizeLine; decide, ?_⟩
    walk_at "D"
    refine ⟨_, rfl, by show 1 ≤ sizeLine; decide, d_lc [("_law_key", 2)] sc_clk.nd (ok := blkOk_by (N := N_clk) (sc := defScope s_clk) (by decide +kernel)) (h := di_list ?_)⟩
    walk_at "D"
    refine ⟨_, rfl, LcI.pure (neD c) (by rw [List.length_map]; exact Nat.lt_of_le_of_lt hl (by decide)) rfl ?_ ?_⟩
    · intro i x hx s H0 C cl fp
      obtain ⟨k, h1, rfl⟩ := get_map hx
      refine dg_name 2 sc_clk.nd (q := ⟨by decide, ?_⟩)
      intro s H0 C cl fp
      refine dts_one (dt_cm (dc_i op_neI (h := d_ix (h := ?_))))
      walk_at "D"
      refine ⟨_, _, _, .inr rfl, rfl, rfl, ?_⟩
      walk_at "D"
      refine ⟨_, _, rfl, rfl, ifb (fun hb => ?_) fun hb => ⟨?_, rfl⟩⟩
      · intro s H0 C cl fp
        walk_at "D"
        exact ⟨_, rfl, if_pos hb, rfl⟩
      · exact if_neg (by rw [hb]; decide)
    rw [fm_map2f (f := neD c) (p := ne c) (g := kD) S fun k _ => rfl]
    refine ⟨_, _, rfl, rfl, ?_, _, rfl, q⟩
    rw [List.length_map]
    exact Nat.le_trans (by simp; omega : _ ≤ 1000) (by decide)
  cases S with
  | nil => exact iff_ rfl (ds_nil (other [] hl q))
  | cons k S =>
    refine ifd (fun e => ?_) fun e => ds_nil (other (k :: S) hl ?_)
    · refine ds_one (ds_ret (d_cat (h := d_lst (da_cons (h := d_tup (h := ?_))))))
      walk_at "D"
      refine d_ix (h := d_ix (h := ?_))
      walk_at "D"
      refine ⟨_, _, kD k, .inl rfl, rfl, at0, ?_⟩
      walk_at "D"
      refine ⟨_, _, _, .inr rfl, rfl, rfl, _, rfl, ?_⟩
      walk_at "D"
      refine ⟨_, rfl, by show 2 ≤ sizeLine; decide, ?_⟩
      walk_at "D"
      refine ⟨_, rfl, by show 1 ≤ sizeLine; decide, d_slice (h := ?_)⟩
      walk_at "D"
      refine ⟨_, rfl, do_none ⟨_, rfl, ?_⟩⟩
      rw [show cut ((k :: S).map kD) (some (1 : Int)) none = S.map kD by rw [cut_map, show (1 : Int) = ((1 : Nat) : Int) from rfl, cut_fr]; rfl]
      refine ⟨_, _, rfl, rfl, ?_, _, rfl, ?_⟩
      · rw [List.length_map]
        exact Nat.le_trans (by simp; simp at hl; omega : _ ≤ 1000) (by decide)
      have e3 : clk (k :: S) c = (c, -k.2) :: S := by
        unfold clk
        simp only
        rw [if_pos e]
      rw [e3] at q
      exact q
    · have e3 : clk (k :: S) c = (c, 1) :: (k :: S).filter (ne c) := by
        unfold clk
        simp only
        rw [if_neg e]
      rw [e3] at q
      exact q
/-! _law_after -/
def c_af : PCon PyData := fun xs P => ∃ (S : List Ky) (cs : List Int), xs = [kL S, .list (iL cs)] ∧ Srt S ∧ S.length ≤ 100 ∧ Cl cs ∧ P (kL (clkd S cs))
theorem m_af : MonP c_af := fun xs P1 P2 h ⟨S, c, e, a, b, d, q⟩ => ⟨S, c, e, a, b, d, h _ q⟩
abbrev N_af : List Str := ["_law_keys_here", "_law_clicks_here", "_law_column"]
theorem sc_af : FnScope N_af ["_law_keys_here", "_law_clicks_here"] (defScope s_af) := ⟨rfl, rfl, rfl, by decide +kernel, rfl, by decide +kernel, by decide +kernel⟩
theorem ok_af (e1 : Cal P w K mg base "_law_click" 1 ["_law_keys_here", "_law_column"] (GC K (pcL c_clk))) : ∀ f fd, Fun K "_law_after" "_law_after" s_af f fd → FnOk P w K mg base CX0 2 f fd ["_law_keys_here", "_law_clicks_here"] (GC K (pcD c_af)) := by
  refine ok_D m_af (fun xs P1 ⟨_, _, e, _⟩ => by rw [e]; rfl) sc_af (by decide) fun f cdv A outer s H E Γ _ hr xs P1 h => ?_
  obtain ⟨S, cs, rfl, hS, hl, hC, q⟩ := h
  refine ds_cons (ds_for (fun i ρ => ∃ t, ρ = [.d (kL (clkd S (cs.take i))), .d (.list (iL cs)), t]) (h := di_list ?_))
  walk_at "D"
  refine ⟨_, rfl, ⟨_, rfl⟩, ?_, ?_⟩
  · rintro i z ρ2 hz ⟨t, rfl⟩ F
    obtain ⟨c, h1, rfl⟩ := iL_at hz
    refine dg_name 2 sc_af.nd (q := ds_cons (ds_set 0 sc_af.nd (h := d_callL (calW e1 (hr.mono (by decide))) m_clk (h := ?_))))
    walk_at "D"
    have hS2 := srt_clkd hS (cs := cs.take i) fun d hd => hC.2 d (List.mem_of_mem_take hd)
    have hl2 := len_clkd S (cs.take i)
    have hl3 := (cl_take hC i).1
    refine ⟨_, rfl, clkd S (cs.take i), c, rfl, sm_of hS2 (by omega), rfl, ds_freeze 0 rfl (ds_nil ⟨.d (.int c), ?_⟩)⟩
    rw [take_next h1]
    unfold clkd
    rw [List.foldl_append]
    rfl
  · rintro ρ2 ⟨t, rfl⟩
    refine ds_one (ds_ret ?_)
    walk_at "D"
    refine ⟨_, rfl, ?_⟩
    rw [List.length_map, List.take_length]
    exact q
/-! _law_keys -/
def c_ks : ACon (List PyData) := fun s xs P => ∃ (a b c : Int) (wd n : Nat), s = .pl (J3 a b c) ∧ xs = [.int (wd : Nat)] ∧ wd ≤ 60 ∧ JOk (n + 2 * wd + 1) b c ∧
  ∀ (S : List Ky) a' b' c', Srt S → S.length ≤ wd → (∀ k ∈ S, k.1 < wd) → JOk n b' c' → P (S.map kD) (.pl (J3 a' b' c'))
theorem m_ks : MonA c_ks := fun s xs P1 P2 h ⟨a, b, c, z, n, e1, e2, h1, h2, q⟩ => ⟨a, b, c, z, n, e1, e2, h1, h2, fun cs a' b' c' k1 k2 k3 k4 => h _ _ (q cs a' b' c' k1 k2 k3 k4)⟩
abbrev N_ks : List Str := ["_law_deck", "_law_width", "_law_left", "_law_found", "_law_turn"]
theorem sc_ks : FnScope N_ks ["_law_deck", "_law_width"] (defScope s_ks) := ⟨rfl, rfl, rfl, by decide +kernel, rfl, by decide +kernel, by decide +kernel⟩
theorem erase_perm {xs : List Int} {i : Nat} {y : Int} (h : xs[i]? = some y) : (y :: xs.eraseIdx i).Perm xs := by
  induction xs generalizing i with
  | nil => cases h
  | cons x xs ih =>
    cases i with
    | zero => cases h; exact .refl _
    | succ i =>
      rw [List.eraseIdx_cons_succ]
      exact (List.Perm.swap x y _).trans ((ih (by simpa using h)).cons x)
theorem erase_map {xs : List Int} {i : Nat} : (iL xs).eraseIdx i = iL (xs.eraseIdx i) := by
  unfold iL
  induction xs generalizing i with
  | nil => rfl
  | cons x xs ih =>
    cases i with
    | zero => rfl
    | succ i => rw [List.map_cons, List.eraseIdx_cons_succ, List.eraseIdx_cons_succ, List.map_cons, ih]
theorem ok_ks (ml : mg "len" = none) (mli : mg "list" = none) (mr : mg "range" = none) (e1 : Cal P w K mg base "_law_draw" 1 ["_law_deck", "_law_many"] (GC K (pcA c_dr))) : ∀ f fd, Fun K "_law_keys" "_law_keys" s_ks f fd → FnOk P w K mg base CX0 2 f fd ["_law_deck", "_law_width"] (GC K (pcAL c_ks)) := by
  refine ok_AL (fun s xs P1 ⟨_, _, _, _, _, _, e, _⟩ => by rw [e]; rfl) sc_ks (by decide) fun f cdv A outer s H E Γ _ hr s0 xs P1 _ h => ?_
  obtain ⟨a, b, c, wd, n, rfl, rfl, hw, hj, q⟩ := h
  refine ds_cons (ds_set 2 sc_ks.nd (h := d_listRg mli mr (h := ?_)))
  walk_at "D"
  refine ⟨_, rfl, by omega, by omega, rfl, ?_⟩
  rw [Int.toNat_natCast]
  refine ds_cons (ds_set 3 sc_ks.nd (h := ?_))
  walk_at "D"
  refine ⟨_, rfl, by show 0 ≤ sizeLine; decide, rfl, ?_⟩
  refine ds_cons (ds_for (fun i ρ => ∃ (S : List Ky) (left : List Int) (a b c : Int) (t : Sl) (j : Nat), ρ = [.pl (J3 a b c), .d (.int (wd : Nat)), .ol (iL left), .ol (S.map kD), t] ∧ S.length = i ∧ (cols S ++ left).Perm (iota wd) ∧ (∀ k ∈ S, k.2 = 1 ∨ k.2 = -1) ∧ JOk (n + 2 * j) b c ∧ i + j = wd) (h := di_rng1 mr (h := d_callAD 0 (calW e1 (hr.mono (by decide))) m_dr (h := da_cons (h := d_add (h := ?_))))))
  walk_at "D"
  walk_at "ii"
  walk_at "D"
  refine ⟨_, _, rfl, rfl, rfl, a, b, c, _, n + 2 * wd, rfl, rfl, hj, by omega, by omega, fun k a b c k0 k1 hj => ?_⟩
  obtain ⟨cnt, rfl⟩ : ∃ cnt : Nat, k = (cnt : Nat) := ⟨k.toNat, by omega⟩
  refine ⟨_, rfl, by omega, by omega, ⟨[], iota wd, a, b, c, .no, wd, rfl, rfl, .refl _, by simp, hj, by omega⟩, ?_, ?_⟩
  · rintro i x ρ2 hx ⟨S, left, a, b, c, t, j, rfl, hl, hp, hs, hj, hij⟩ F
    obtain ⟨hi, rfl⟩ := rng_at hx
    rw [Int.toNat_natCast] at hi
    have hpl := hp.length_eq
    rw [List.length_append, iota_len] at hpl
    have hcl : (cols S).length = S.length := by unfold cols; rw [List.length_map]
    refine dg_name 4 sc_ks.nd (q := ds_one (ds_expr (h := d_append 3 (h := d_tup (da_cons (h := d_popAt 2 (h := d_callAD 0 (calW e1 (hr.mono (by decide))) m_dr (h := da_cons (h := d_len ml (h := ?_))))))))))
    walk_at "D"
    refine ⟨_, .inl rfl, ?_⟩
    walk_at "D"
    refine ⟨_, _, rfl, rfl, rfl, a, b, c, _, n + (2 * (j - 1) + 1), rfl, rfl, hj.le (by omega), by rw [List.length_map]; omega, by rw [List.length_map]; omega, fun k a b c k0 k1 hj => ?_⟩
    rw [List.length_map] at k1
    obtain ⟨p, rfl⟩ : ∃ p : Nat, k = (p : Nat) := ⟨k.toNat, by omega⟩
    obtain ⟨y, hy⟩ : ∃ y, left[p]? = some y := ⟨_, List.getElem?_eq_getElem (by omega)⟩
    refine ⟨p, .int y, iL left, rfl, rfl, by rw [List.length_map]; omega, by show (left.map PyData.int)[p]? = _; rw [List.getElem?_map, hy]; rfl, ?_⟩
    refine da_cons (h := d_ix (h := d_lst (h := ?_)))
    walk_at "D"
    refine ⟨_, rfl, ?_⟩
    walk_at "D"
    refine ⟨_, rfl, by show 2 ≤ sizeLine; decide, ?_⟩
    refine d_callAD 0 (calW e1 (hr.mono (by decide))) m_dr (h := ?_)
    walk_at "D"
    refine ⟨_, _, rfl, rfl, rfl, a, b, c, _, n + 2 * (j - 1), rfl, rfl, hj.le (by omega), by decide, by decide, fun k2 a b c p0 p1 hj => ?_⟩
    obtain ⟨sg, hsg, hsg2⟩ : ∃ sg : Int, (sg = 1 ∨ sg = -1) ∧ atI [PyData.int 1, PyData.int (-1)] k2 = some (.int sg) := by
      have : k2 = 0 ∨ k2 = 1 := by omega
      rcases this with rfl | rfl
      · exact ⟨1, .inl rfl, rfl⟩
      · exact ⟨-1, .inr rfl, rfl⟩
    refine ⟨_, _, _, .inl rfl, rfl, hsg2, ?_⟩
    walk_at "D"
    refine ⟨_, rfl, by show 2 ≤ sizeLine; decide, _, _, rfl, rfl, ?_, S ++ [(y, sg)], left.eraseIdx p, a, b, c, .d (.int (0 + (i : Nat))), j - 1, ?_, by rw [List.length_append, hl]; rfl, ?_, ?_, hj, by omega⟩
    · rw [List.length_map]
      exact Nat.lt_of_le_of_lt (by omega : S.length ≤ 60) (by decide)
    · rw [erase_map, List.map_append]
      rfl
    · unfold cols
      rw [List.map_append, List.append_assoc]
      exact (List.Perm.append_left _ (erase_perm hy)).trans hp
    · intro k hk
      rcases List.mem_append.mp hk with h | h
      · exact hs k h
      · rw [List.mem_singleton.mp h]; exact hsg
  · rintro ρ2 ⟨S, left, a, b, c, t, j, rfl, hl, hp, hs, hj, hij⟩
    rw [rng_len, Int.toNat_natCast] at hl
    have nd := hp.nodup_iff.mpr (iota_nodup wd)
    rw [List.nodup_append] at nd
    have hin : ∀ k ∈ S, 0 ≤ k.1 ∧ k.1 < wd := fun k hk => mem_iota.mp (hp.mem_iff.mp (List.mem_append_left _ (List.mem_map.mpr ⟨k, hk, rfl⟩)))
    refine ds_one (ds_retO 3 (q := ?_))
    exact ⟨_, _, rfl, rfl, rfl, q S a b c ⟨nd.1, hs, fun k hk => by have := hin k hk; omega⟩ (by omega) (fun k hk => (hin k hk).2) (hj.le (by omega))⟩
end
end K09
namespace K09
open PySem L2 Evl Lw Dw
/-! ### all sortings -/
def ext (w : Nat) (S : List Ky) : List (List Ky) := ((iota w).filter fun c => !decide (c ∈ cols S)).flatMap fun c => [S ++ [(c, -1)], S ++ [(c, 1)]]
def layer (w : Nat) : Nat → List (List Ky)
  | 0 => [[]]
  | n + 1 => (layer w n).flatMap (ext w)
def fnd (w : Nat) : Nat → List (List Ky)
  | 0 => [[]]
  | n + 1 => fnd w n ++ layer w (n + 1)
abbrev evM (w : Nat) : List (List Ky) := fnd w w
def lays (w i : Nat) : Bool := decide ((layer w i).length ≤ 100) && (layer w i).all fun S => decide (S.length ≤ 10) && S.all fun k => decide (k.1.natAbs ≤ 1000) && decide (k.2.natAbs ≤ 1000)
theorem lays_ok : ∀ w, w ≤ 3 → ∀ i, i ≤ 3 → lays w i = true := by decide +kernel
theorem fnds_ok : ∀ w, w ≤ 3 → ∀ i, i ≤ 3 → (fnd w i).length ≤ 300 := by decide +kernel
theorem lay_sm {w i : Nat} (hw : w ≤ 3) (hi : i ≤ 3) : (layer w i).length ≤ 100 ∧ ∀ S ∈ layer w i, S.length ≤ 10 ∧ Sm S := by
  have h := lays_ok w hw i hi
  unfold lays at h
  simp only [Bool.and_eq_true, decide_eq_true_eq, List.all_eq_true] at h
  refine ⟨h.1, fun S hS => ⟨(h.2 S hS).1, by have := (h.2 S hS).1; omega, fun k hk => ?_⟩⟩
  have := (h.2 S hS).2 k hk
  omega
theorem flat_take {α β : Type} {xs : List α} {f : α → List β} {i : Nat} {x : α} (h : xs[i]? = some x) : (xs.take (i + 1)).flatMap f = (xs.take i).flatMap f ++ f x := by
  rw [take_next h, List.flatMap_append]
  simp
theorem flat_len {α β : Type} {f : α → List β} {k : Nat} : ∀ {xs : List α}, (∀ x ∈ xs, (f x).length ≤ k) → (xs.flatMap f).length ≤ k * xs.length
  | [], _ => by simp
  | x :: xs, h => by
    have h1 := h x List.mem_cons_self
    have h2 := flat_len (xs := xs) fun y hy => h y (List.mem_cons_of_mem _ hy)
    rw [List.flatMap_cons, List.length_append, List.length_cons, Nat.mul_add]
    omega
abbrev two (S : List Ky) (c : Int) : List (List Ky) := [S ++ [(c, -1)], S ++ [(c, 1)]]
theorem ext_len (w : Nat) (S : List Ky) : (ext w S).length ≤ 2 * w := by
  refine Nat.le_trans (flat_len (k := 2) fun x _ => by simp) ?_
  have := List.length_filter_le (fun c => !decide (c ∈ cols S)) (iota w)
  rw [iota_len] at this
  omega
section
variable {P : Program} {w : World} {K : PySem.W.Frag} {mg : Str → Option Value} {base : Heap}
/-! _law_every -/
def c_ev : PCon (List PyData) := fun xs P => ∃ wd : Nat, xs = [.int (wd : Nat)] ∧ wd ≤ 3 ∧ P ((evM wd).map kL)
theorem m_ev : MonP c_ev := fun xs P1 P2 h ⟨S, e, a, q⟩ => ⟨S, e, a, h _ q⟩
abbrev N_ev : List Str := ["_law_width", "_law_found", "_law_layer", "_law_turn", "_law_longer", "_law_keys_here", "_law_used", "_law_column", "_law_sign", "_law_one"]
theorem sc_ev : FnScope N_ev ["_law_width"] (defScope s_ev) := ⟨rfl, rfl, rfl, by decide +kernel, rfl, by decide +kernel, by decide +kernel⟩
def niD (us : List Int) : PyData → Option PyData
  | .int c => if (!decide (c ∈ us)) = true then some (.int c) else none
  | _ => none
theorem ok_ev (mli : mg "list" = none) (mr : mg "range" = none) : ∀ f fd, Fun K "_law_every" "_law_every" s_ev f fd → FnOk P w K mg base CX0 1 f fd ["_law_width"] (GC K (pcL c_ev)) := by
  refine ok_L (fun xs P1 ⟨_, e, _⟩ => by rw [e]; rfl) sc_ev (by decide) fun f cdv A outer s H E Γ _ hr xs P1 h => ?_
  obtain ⟨wd, rfl, hw, q⟩ := h
  refine ds_cons (ds_set 1 sc_ev.nd (h := d_lst (da_cons (h := ?_))))
  walk_at "D"
  refine ⟨_, rfl, by show 0 ≤ sizeLine; decide, ?_⟩
  walk_at "D"
  refine ⟨_, rfl, by show 1 ≤ sizeLine; decide, rfl, ?_⟩
  refine ds_cons (ds_set 2 sc_ev.nd (h := d_lst (da_cons (h := ?_))))
  walk_at "D"
  refine ⟨_, rfl, by show 0 ≤ sizeLine; decide, ?_⟩
  walk_at "D"
  refine ⟨_, rfl, by show 1 ≤ sizeLine; decide, rfl, ?_⟩
  refine ds_cons (ds_for (fun i ρ => ∃ (t3 t4 t5 t6 t7 : Sl), t7.tag = 0 ∧ ρ = [.d (.int (wd : Nat)), .ol ((fnd wd i).map kL), .ol ((layer wd i).map kL), t3, t4, t5, t6, t7, .no, .no]) (h := di_rng1 mr (h := ?_)))
  walk_at "D"
  refine ⟨_, rfl, by omega, by omega, ⟨_, _, _, _, _, rfl, rfl⟩, ?_, ?_⟩
  · rintro i x ρ2 hx ⟨t3, t4, t5, t6, t7, h7, rfl⟩ F
    obtain ⟨hi, rfl⟩ := rng_at hx
    rw [Int.toNat_natCast] at hi
    obtain ⟨hl1, hl2⟩ := lay_sm hw (by omega : i ≤ 3)
    obtain ⟨hl3, hl4⟩ := lay_sm hw (by omega : i + 1 ≤ 3)
    refine dg_name 3 sc_ev.nd (q := ds_freeze 2 rfl (ds_cons (ds_set 4 sc_ev.nd (h := ?_))))
    walk_at "D"
    refine ⟨_, rfl, by show 0 ≤ sizeLine; decide, rfl, ?_⟩
    refine ds_cons (ds_for (fun j ρ => ∃ (t5 t6 t7 : Sl), t7.tag = 0 ∧ ρ = [.d (.int (wd : Nat)), .ol ((fnd wd i).map kL), .d (.list ((layer wd i).map kL)), .d (.int (0 + (i : Nat))), .ol ((((layer wd i).take j).flatMap (ext wd)).map kL), t5, t6, t7, .no, .no]) (h := di_list ?_))
    walk_at "D"
    refine ⟨_, rfl, ⟨_, _, _, h7, rfl⟩, ?_, ?_⟩
    · rintro j z ρ2 hz ⟨t5, t6, t7, h7, rfl⟩ F
      obtain ⟨S, h1, rfl⟩ := get_map hz
      obtain ⟨hS1, hS2⟩ := hl2 S (List.mem_of_getElem? h1)
      refine dg_name 5 sc_ev.nd (q := ds_cons (ds_set 6 sc_ev.nd (h := d_lc [("_law_column", 7), ("_law_sign", 8)] sc_ev.nd (ok := blkOk_by (N := N_ev) (sc := defScope s_ev) (by decide +kernel)) (h := di_list ?_))))
      walk_at "D"
      refine ⟨_, rfl, LcI.pure colD (by rw [List.length_map]; exact Nat.lt_of_le_of_lt hS1 (by decide)) (by simp [wipeR, h7]; rfl) ?_ ?_⟩
      · intro i x hx s H0 C cl fp
        obtain ⟨k, h1, rfl⟩ := get_map hx
        refine dg_tup rfl (h := dgs_cons (h := dg_name 7 sc_ev.nd (q := dgs_cons (h := dg_name 8 sc_ev.nd (q := dgs_nil ⟨by decide, ?_⟩)))))
        intro s H0 C cl fp
        refine dts_nil (ift rfl ?_)
        intro s H0 C cl fp
        walk_at "D"
        exact ⟨_, rfl, rfl, rfl⟩
      rw [fm_map2 (f := colD) (g := fun k => .int k.1) S fun k _ => rfl, show (S.map fun k => PyData.int k.1) = iL (cols S) by unfold iL cols; rw [List.map_map]; rfl]
      refine ⟨rfl, ds_freeze 6 rfl ?_⟩
      try dsimp only [wipeR, List.map, List.set]
      have fU : Fl (.list (iL (cols S))) 1 (252 * 100) := fl_iL (fun c hc => by
        obtain ⟨k, hk, rfl⟩ := List.mem_map.mp hc
        exact sml_of (hS2.2 k hk).1) (by unfold cols; rw [List.length_map]; omega)
      obtain ⟨O, hO⟩ : ∃ O, O = (iota wd).filter fun c => !decide (c ∈ cols S) := ⟨_, rfl⟩
      have hOl : O.length ≤ 3 := by
        rw [hO]
        have := List.length_filter_le (fun c => !decide (c ∈ cols S)) (iota wd)
        rw [iota_len] at this
        omega
      have hAl : (((layer wd i).take j).flatMap (ext wd)).length ≤ 600 := by
        refine Nat.le_trans (flat_len (k := 6) fun S _ => Nat.le_trans (ext_len wd S) (by omega)) ?_
        rw [List.length_take]
        omega
      obtain ⟨A1, hA1⟩ : ∃ A1, A1 = ((layer wd i).take j).flatMap (ext wd) := ⟨_, rfl⟩
      rw [← hA1] at hAl ⊢
      refine ds_one (ds_for (fun m ρ => ∃ (t7 : Sl), t7.tag = 0 ∧ ρ = [.d (.int (wd : Nat)), .ol ((fnd wd i).map kL), .d (.list ((layer wd i).map kL)), .d (.int (0 + (i : Nat))), .ol ((A1 ++ (O.take m).flatMap (two S)).map kL), .d (kL S), .d (.list (iL (cols S))), t7, .no, .no]) (h := di_list (d_lc [("_law_one", 9)] sc_ev.nd (ok := blkOk_by (N := N_ev) (sc := defScope s_ev) (by decide +kernel)) (h := di_rng1 mr (h := ?_)))))
      walk_at "D"
      refine ⟨_, rfl, by omega, by omega, LcI.pure (niD (cols S)) (by rw [rng_len, Int.toNat_natCast]; exact Nat.lt_of_le_of_lt hw (by decide)) rfl ?_ ?_⟩
      · intro i x hx s H0 C cl fp
        obtain ⟨hi, rfl⟩ := rng_at hx
        rw [Int.toNat_natCast] at hi
        refine dg_name 9 sc_ev.nd (q := ⟨by decide, ?_⟩)
        intro s H0 C cl fp
        refine dts_one (dt_cm (dc_notin (room65 hr) (h := ?_)))
        walk_at "D"
        refine ⟨_, rfl, ?_⟩
        walk_at "D"
        refine ⟨_, rfl, (fl_int (sml_of (by omega))).okD, fU.okD, ?_⟩
        rw [any_iL]
        refine ifb (fun hb => ?_) fun hb => ⟨?_, rfl⟩
        · intro s H0 C cl fp
          walk_at "D"
          exact ⟨_, rfl, if_pos hb, rfl⟩
        · exact if_neg (by rw [hb]; decide)
      rw [rng_iL, show ((List.range ((wd : Nat) : Int).toNat).map fun i : Nat => (i : Int)) = iota wd by rw [Int.toNat_natCast]; rfl]
      rw [fm_iLf (p := fun c => !decide (c ∈ cols S)) (g := .int) (iota wd) fun n _ => rfl, ← hO]
      refine ⟨_, rfl, ⟨.no, rfl, by rw [List.take_zero]; show _ = [_, _, _, _, Sl.ol ((A1 ++ []).map kL), _, _, _, _, _]; rw [List.append_nil]; rfl⟩, ?_, ?_⟩
      · rintro m z ρ2 hz ⟨t7, h7, rfl⟩ F
        obtain ⟨c, h2, rfl⟩ := iL_at hz
        have hcm : c ∈ O := List.mem_of_getElem? h2
        have hBl : (A1 ++ (O.take m).flatMap (two S)).length ≤ 700 := by
          rw [List.length_append]
          have : ((O.take m).flatMap (two S)).length ≤ 2 * (O.take m).length := flat_len (k := 2) fun x _ => by simp
          rw [List.length_take] at this
          omega
        obtain ⟨B1, hB1⟩ : ∃ B1, B1 = A1 ++ (O.take m).flatMap (two S) := ⟨_, rfl⟩
        have hB2 : A1 ++ (O.take (m + 1)).flatMap (two S) = B1 ++ two S c := by rw [flat_take h2, hB1, List.append_assoc]
        rw [hB2]
        rw [← hB1] at hBl ⊢
        refine dg_name 7 sc_ev.nd (q := ds_cons (ds_expr (h := d_append 4 (h := d_cat (h := ?_)))))
        walk_at "D"
        refine ⟨_, rfl, ?_⟩
        walk_at "D"
        refine ⟨_, rfl, by show 2 ≤ sizeLine; decide, ?_⟩
        walk_at "D"
        refine ⟨_, rfl, by show 1 ≤ sizeLine; decide, _, _, rfl, rfl, ?_, _, _, rfl, rfl, ?_, ?_⟩
        · rw [List.length_map]
          exact Nat.le_trans (by simp; omega : _ ≤ 1000) (by decide)
        · rw [List.length_map]
          exact Nat.lt_of_le_of_lt hBl (by decide)
        refine ds_one (ds_expr (h := d_append 4 (h := d_cat (h := ?_))))
        walk_at "D"
        refine ⟨_, rfl, by show 2 ≤ sizeLine; decide, ?_⟩
        walk_at "D"
        refine ⟨_, rfl, by show 1 ≤ sizeLine; decide, _, _, rfl, rfl, ?_, _, _, rfl, rfl, ?_, .d (.int c), rfl, ?_⟩
        · rw [List.length_map]
          exact Nat.le_trans (by simp; omega : _ ≤ 1000) (by decide)
        · rw [List.length_append, List.length_map]
          exact Nat.lt_of_le_of_lt (by simp; omega : _ ≤ 1000) (by decide)
        rw [List.map_append]
        show _ = [_, _, _, _, Sl.ol (B1.map kL ++ [kL (S ++ [(c, -1)]), kL (S ++ [(c, 1)])]), _, _, _, _, _]
        unfold kL
        rw [List.map_append, List.map_append]
        show [_, _, _, _, Sl.ol ((B1.map kL ++ [_]) ++ [_]), _, _, _, _, _] = _
        rw [List.append_assoc]
        rfl
      · rintro ρ2 ⟨t7, h7, rfl⟩
        refine ⟨.d (kL S), .d (.list (iL (cols S))), t7, h7, ?_⟩
        rw [flat_take h1, ← hA1]
        have : (O.take (iL O).length).flatMap (two S) = ext wd S := by
          rw [List.length_map, List.take_length, hO]
          rfl
        rw [this]
    · rintro ρ2 ⟨t5, t6, t7, h7, rfl⟩
      rw [List.length_map, List.take_length]
      have hfl := fnds_ok wd hw i (by omega)
      refine ds_freeze 4 rfl (ds_cons (ds_set 1 sc_ev.nd (h := d_cat (h := ?_))))
      walk_at "D"
      refine ⟨_, _, rfl, rfl, ?_, rfl, ?_⟩
      · rw [List.length_map, List.length_map]
        exact Nat.le_trans (Nat.add_le_add hfl hl3) (by decide)
      refine ds_one (ds_set 2 sc_ev.nd (h := d_list1 mli (h := ?_)))
      walk_at "D"
      refine ⟨_, .inl rfl, rfl, .d (.int (0 + (i : Nat))), .d (.list ((layer wd (i + 1)).map kL)), t5, t6, t7, h7, ?_⟩
      rw [← List.map_append]
      rfl
  · rintro ρ2 ⟨t3, t4, t5, t6, t7, h7, rfl⟩
    refine ds_one (ds_retO 1 (q := ⟨_, rfl, ?_⟩))
    rw [rng_len, Int.toNat_natCast]
    exact q
end
end K09
namespace K09
open PySem L2 Evl Lw Dw
theorem oth_filter (f : Int) : ∀ (cs : List Int) (k : Nat), oth f cs k = ((List.range cs.length).filter fun i => !decide (cs.getD i 0 = f)).map fun i => ((k + i : Nat) : Int)
  | [], _ => rfl
  | c :: cs, k => by
    rw [List.length_cons, List.range_succ_eq_map, List.filter_cons]
    unfold oth
    have ih := oth_filter f cs (k + 1)
    have e2 : ((List.range cs.length).map Nat.succ).filter (fun i => !decide ((c :: cs).getD i 0 = f)) = ((List.range cs.length).filter fun i => !decide (cs.getD i 0 = f)).map Nat.succ := by
      rw [List.filter_map]
      rfl
    rw [e2]
    have e3 : (((List.range cs.length).filter fun i => !decide (cs.getD i 0 = f)).map Nat.succ).map (fun i => ((k + i : Nat) : Int)) = oth f cs (k + 1) := by
      rw [ih, List.map_map]
      refine List.map_congr_left fun i _ => ?_
      simp only [Function.comp]
      omega
    by_cases e : c = f
    · rw [if_pos e, if_neg (by simp [e]), e3]
    · rw [if_neg e, if_pos (by simp [e]), List.map_cons, e3]
      rfl
theorem oth_iota (f : Int) (cs : List Int) : oth f cs 0 = (iota cs.length).filter fun i => !decide (cs.getD i.toNat 0 = f) := by
  rw [oth_filter]
  unfold iota
  rw [List.filter_map]
  have : ∀ l : List Nat, (l.map fun (i : Nat) => ((0 + i : Nat) : Int)) = l.map fun (i : Nat) => (i : Int) := fun l => List.map_congr_left fun i _ => by rw [Nat.zero_add]
  rw [this]
  rfl
section
variable {P : Program} {w : World} {K : PySem.W.Frag} {mg : Str → Option Value} {base : Heap}
/-! _law_says -/
def c_sy : PCon PyData := fun xs P => ∃ a b : Bool, xs = [.bool a, .bool b] ∧ P (.bool (a == b))
theorem m_sy : MonP c_sy := fun xs P1 P2 h ⟨a, b, e, q⟩ => ⟨a, b, e, h _ q⟩
theorem sc_sy : FnScope ["_law_found", "_law_due"] ["_law_found", "_law_due"] (defScope s_sy) := ⟨rfl, rfl, rfl, by decide +kernel, rfl, by decide +kernel, by decide +kernel⟩
theorem ok_sy (mi : mg "isinstance" = none) (mb : mg "bool" = none) : ∀ f fd, Fun K "_law_says" "_law_says" s_sy f fd → FnOk P w K mg base CX0 1 f fd ["_law_found", "_law_due"] (GC K (pcD c_sy)) := by
  refine ok_D m_sy (fun xs P1 ⟨_, _, e, _⟩ => by rw [e]; rfl) sc_sy (by decide) fun f cdv A outer s H E Γ _ hr xs P1 h => ?_
  obtain ⟨a, b, rfl, q⟩ := h
  refine ds_one (ds_ret (d_and (h := d_isiB mi mb (h := ?_))))
  walk_at "D"
  refine ⟨_, rfl, _, rfl, ift rfl (d_one (d_cm (dc_beq (h := ?_))))⟩
  walk_at "D"
  exact ⟨_, _, rfl, rfl, _, rfl, q⟩
/-! _law_bound -/
abbrev N_bo : List Str := ["_law_clicks_here", "_law_others", "_law_k", "_law_again"]
theorem sc_bo : FnScope N_bo ["_law_clicks_here"] (defScope s_bo) := ⟨rfl, rfl, rfl, by decide +kernel, rfl, by decide +kernel, by decide +kernel⟩
def onD (p : Int → Bool) : PyData → Option PyData
  | .int i => if p i = true then some (.int i) else none
  | _ => none
theorem ok_bo (ml : mg "len" = none) (mr : mg "range" = none) : ∀ f fd, Fun K "_law_bound" "_law_bound" s_bo f fd → FnOk P w K mg base CX0 1 f fd ["_law_clicks_here"] (GC K (pcD c_ib)) := by
  refine ok_D m_ib (fun xs P1 ⟨_, e, _⟩ => by rw [e]; rfl) sc_bo (by decide) fun f cdv A outer s H E Γ _ hr xs P1 h => ?_
  obtain ⟨cs, rfl, hc, q⟩ := h
  have hl := hc.1
  obtain ⟨f0, hf0⟩ : ∃ f0, f0 = cs.headD 0 := ⟨_, rfl⟩
  have at_f : cs ≠ [] → atI (iL cs) 0 = some (.int f0) := fun h => by
    cases cs with
    | nil => exact absurd rfl h
    | cons c cs => rw [hf0]; exact at0
  have at_k : ∀ k : Nat, k < cs.length → atI (iL cs) ((0 : Int) + (k : Nat)) = some (.int (cs.getD k 0)) := fun k hk => by
    rw [show (0 : Int) + (k : Nat) = ((k : Nat) : Int) by omega]
    refine atI_nat ?_
    unfold iL
    rw [List.getElem?_map, List.getElem?_eq_getElem hk, List.getD_eq_getElem?_getD, List.getElem?_eq_getElem hk]
    rfl
  refine ds_cons (ds_set 1 sc_bo.nd (h := d_lc [("_law_k", 2)] sc_bo.nd (ok := blkOk_by (N := N_bo) (sc := defScope s_bo) (by decide +kernel)) (h := di_rng1 mr (h := d_len ml (h := ?_)))))
  walk_at "D"
  refine ⟨_, .inl rfl, ?_⟩
  rw [List.length_map]
  refine ⟨_, rfl, by omega, by omega, LcI.pure (onD fun k => !decide (cs.getD k.toNat 0 = f0)) (by rw [rng_len, Int.toNat_natCast]; exact Nat.lt_of_le_of_lt hl (by decide)) rfl ?_ ?_⟩
  · intro i x hx s H0 C cl fp
    obtain ⟨hi, rfl⟩ := rng_at hx
    rw [Int.toNat_natCast] at hi
    refine dg_name 2 sc_bo.nd (q := ⟨by decide, ?_⟩)
    intro s H0 C cl fp
    refine dts_one (dt_cm (dc_i op_neI (h := d_ix (h := ?_))))
    walk_at "D"
    refine ⟨_, _, _, .inl rfl, rfl, at_k i hi, d_ix (h := ?_)⟩
    walk_at "D"
    have ei : ((0 : Int) + ((i : Nat) : Int)).toNat = i := by omega
    refine ⟨_, _, _, .inl rfl, rfl, at_f (by intro z; rw [z] at hi; simp at hi), _, _, rfl, rfl, ifb (fun hb => ?_) fun hb => ⟨?_, rfl⟩⟩
    · intro s H0 C cl fp
      walk_at "D"
      refine ⟨_, rfl, ?_, rfl⟩
      unfold onD
      simp only [ei]
      exact if_pos hb
    · unfold onD
      simp only [ei]
      exact if_neg (by rw [hb]; decide)
  rw [rng_iL, show ((List.range ((cs.length : Nat) : Int).toNat).map fun i : Nat => (i : Int)) = iota cs.length by rw [Int.toNat_natCast]; rfl]
  rw [fm_iLf (p := fun k => !decide (cs.getD k.toNat 0 = f0)) (g := .int) (iota cs.length) fun n _ => rfl, ← oth_iota]
  refine ⟨rfl, ds_freeze 1 rfl ?_⟩
  try dsimp only [wipeR, List.map, List.set]
  obtain ⟨O, hO⟩ : ∃ O, O = oth f0 cs 0 := ⟨_, rfl⟩
  rw [← hO]
  have hOin : ∀ i ∈ O, ∃ n : Nat, i = (n : Nat) ∧ n < cs.length := fun i hi => by
    obtain ⟨n, h1, _, h3⟩ := oth_ge f0 cs 0 i (hO ▸ hi)
    exact ⟨n, h1, by omega⟩
  have hOl : O.length ≤ 100 := by
    rw [hO, oth_iota]
    have := List.length_filter_le (fun i : Int => !decide (cs.getD i.toNat 0 = f0)) (iota cs.length)
    rw [iota_len] at this
    omega
  have fO : Fl (.list (iL O)) 1 (252 * 100) := fl_iL (fun i hi => by
    obtain ⟨n, h1, h2⟩ := hOin i hi
    exact sml_of (by omega)) hOl
  obtain ⟨pA, hpA⟩ : ∃ pA : Int → Bool, pA = fun k => (!decide (O = []) && (decide (k > O.headD 0) && decide (cs.getD k.toNat 0 = f0))) := ⟨_, rfl⟩
  refine ds_cons (ds_setLc 3 [("_law_k", 2)] sc_bo.nd (ok := blkOk_by (N := N_bo) (sc := defScope s_bo) (by decide +kernel)) (h := di_rng1 mr (h := d_len ml (h := ?_))))
  walk_at "D"
  refine ⟨_, .inl rfl, ?_⟩
  rw [List.length_map]
  refine ⟨_, rfl, by omega, by omega, LcI.pure (onD pA) (by rw [rng_len, Int.toNat_natCast]; exact Nat.lt_of_le_of_lt hl (by decide)) rfl ?_ ?_⟩
  · intro i x hx s H0 C cl fp
    obtain ⟨hi, rfl⟩ := rng_at hx
    rw [Int.toNat_natCast] at hi
    have ei : ((0 : Int) + ((i : Nat) : Int)).toNat = i := by omega
    refine dg_name 2 sc_bo.nd (q := ⟨by decide, ?_⟩)
    intro s H0 C cl fp
    refine dts_one (dt_to (pA (0 + (i : Nat))) ?_ ?_)
    · refine dt_wb (db_and (h := dt_cm (dc_neL (Nat.lt_of_succ_lt (room65 hr)) (h := ?_))))
      walk_at "D"
      refine ⟨_, rfl, by show 0 ≤ sizeLine; decide, _, _, rfl, rfl, fO.okD, rfl, ?_⟩
      rw [PyData.eqv, show ([] : List PyData) = iL [] from rfl, eqvA_iL]
      rw [hpA]
      simp only [ei]
      by_cases hne : O = []
      · exact iff_ (by simp [hne]) ⟨by simp [hne], by first | rfl | trivial⟩
      · refine ift (by simp [hne]) (db_and (h := dt_cm (dc_i op_gt (h := ?_))))
        walk_at "D"
        refine d_ix (h := ?_)
        walk_at "D"
        obtain ⟨o, os, ho⟩ : ∃ o os, O = o :: os := by
          cases O with
          | nil => exact absurd rfl hne
          | cons o os => exact ⟨o, os, rfl⟩
        refine ⟨_, _, .int o, .inl rfl, rfl, by rw [ho]; exact at0, _, _, rfl, rfl, ?_⟩
        rw [show O.headD 0 = o by rw [ho]; rfl, show (!decide (O = [])) = true by simp [hne], Bool.true_and]
        refine ifd (fun hgt => ?_) fun hgt => ⟨by rw [decide_eq_false hgt]; rfl, by first | rfl | trivial⟩
        refine db_and1 (dt_cm (dc_i op_eqI (h := d_ix (h := ?_))))
        walk_at "D"
        refine ⟨_, _, _, .inl rfl, rfl, at_k i hi, d_ix (h := ?_)⟩
        walk_at "D"
        refine ⟨_, _, _, .inl rfl, rfl, at_f (by intro z; rw [z] at hi; simp at hi), _, _, rfl, rfl, ?_, by first | rfl | trivial⟩
        rw [decide_eq_true hgt, Bool.true_and]
    refine ifb (fun hb => ?_) fun hb => ⟨if_neg (by rw [hb]; decide), rfl⟩
    intro s H0 C cl fp
    walk_at "D"
    exact ⟨_, rfl, if_pos hb, rfl⟩
  rw [rng_iL, show ((List.range ((cs.length : Nat) : Int).toNat).map fun i : Nat => (i : Int)) = iota cs.length by rw [Int.toNat_natCast]; rfl]
  rw [fm_iLf (p := pA) (g := .int) (iota cs.length) fun n _ => rfl]
  have fG : Fl (.list (iL ((iota cs.length).filter pA))) 1 (252 * 100) := fl_iL (fun i hi => by
    have := mem_iota.mp (List.mem_filter.mp hi).1
    exact sml_of (by omega)) (by
    refine Nat.le_trans (List.length_filter_le _ _) ?_
    rw [iota_len]
    exact hl)
  refine ds_one (ds_ret (d_and (h := d_cm (dc_neL (Nat.lt_of_succ_lt (room65 hr)) (h := ?_)))))
  walk_at "D"
  refine ⟨_, rfl, by show 0 ≤ sizeLine; decide, _, _, rfl, rfl, fl_any hc, rfl, _, rfl, ?_⟩
  rw [PyData.eqv, show ([] : List PyData) = iL [] from rfl, eqvA_iL]
  cases hcs : cs with
  | nil =>
    subst hcs
    exact iff_ (by simp) ⟨_, rfl, q⟩
  | cons c0 t =>
    rw [← hcs]
    have hne : cs ≠ [] := by rw [hcs]; simp
    refine ift (by simp [hne]) (d_one (d_cm (dc_eqL (Nat.lt_of_succ_lt (room65 hr)) (h := ?_))))
    walk_at "D"
    refine ⟨_, rfl, by show 0 ≤ sizeLine; decide, _, _, rfl, rfl, fG.okD, rfl, _, rfl, ?_⟩
    rw [PyData.eqv, show ([] : List PyData) = iL [] from rfl, eqvA_iL]
    have hb : bnd cs = decide ((iota cs.length).filter pA = []) := by
      have ef : f0 = c0 := by rw [hf0, hcs]; rfl
      have eb : bnd cs = !(cs.dropWhile (· == f0)).contains f0 := by
        rw [hcs, ef]
        show (!(t.dropWhile (· == c0)).contains c0) = _
        rw [show (c0 :: t).dropWhile (· == c0) = t.dropWhile (· == c0) by simp]
      rw [eb]
      rcases oth_cut f0 cs 0 with ⟨h1, h2⟩ | ⟨n, is, h1, h2, h3⟩
      · rw [h2, Bool.eq_iff_iff, decide_eq_true_eq]
        refine ⟨fun _ => ?_, fun _ => rfl⟩
        rw [List.filter_eq_nil_iff]
        intro k hk
        rw [hpA, hO, h1]
        simp
      · rw [← h2, Bool.eq_iff_iff, decide_eq_true_eq, List.filter_eq_nil_iff, List.contains_eq_mem]
        have hO' : O = ((0 + n : Nat) : Int) :: is := by rw [hO, h1]
        have hn0 : cs.getD n 0 ≠ f0 := by
          have : ((0 + n : Nat) : Int) ∈ oth f0 cs 0 := by rw [h1]; exact List.mem_cons_self
          rw [oth_iota] at this
          have := (List.mem_filter.mp this).2
          rw [Nat.zero_add, Int.toNat_natCast] at this
          simpa using this
        simp only [Bool.not_eq_true', decide_eq_false_iff_not]
        constructor
        · intro hnot k hk
          rw [hpA, hO']
          simp only [Nat.zero_add, List.headD_cons, Bool.and_eq_true, decide_eq_true_eq, not_and]
          intro _ hgt heq
          have hk' := mem_iota.mp hk
          refine hnot (List.mem_of_getElem? (i := k.toNat - n) ?_)
          rw [List.getElem?_drop, show n + (k.toNat - n) = k.toNat by omega, List.getElem?_eq_getElem (by omega)]
          rw [List.getD_eq_getElem?_getD, List.getElem?_eq_getElem (by omega)] at heq
          exact congrArg some heq
        · intro hall hmem
          obtain ⟨j, hj⟩ := List.getElem?_of_mem hmem
          rw [List.getElem?_drop] at hj
          have hjl := (List.getElem?_eq_some_iff.mp hj).1
          have hg : cs.getD (n + j) 0 = f0 := by rw [List.getD_eq_getElem?_getD, hj]; rfl
          have hj0 : j ≠ 0 := fun z => by
            rw [z] at hg
            exact hn0 hg
          have := hall ((n + j : Nat) : Int) (mem_iota.mpr ⟨by omega, by omega⟩)
          rw [hpA, hO'] at this
          simp only [Nat.zero_add, List.headD_cons, Int.toNat_natCast, hg] at this
          have h5 : ((n + j : Nat) : Int) > ((n : Nat) : Int) := by omega
          simp [h5] at this
          omega
    rw [hb] at q
    exact q
end
end K09
namespace K09
open PySem L2 Evl Lw Dw
section
variable {P : Program} {w : World} {K : PySem.W.Frag} {mg : Str → Option Value} {base : Heap}
/-! _law_other -/
def c_ot : ACon (List PyData) := fun s xs P => ∃ (a b c : Int) (wd n : Nat) (cs : List Int), s = .pl (J3 a b c) ∧ xs = [.int (wd : Nat), .list (iL cs)] ∧ 0 < wd ∧ wd ≤ 1000 ∧ Dr wd 10 cs ∧ JOk (n + 30) b c ∧
  ∀ (ds : List Int) a' b' c', Dr wd 30 ds → JOk n b' c' → P (iL ds) (.pl (J3 a' b' c'))
theorem m_ot : MonA c_ot := fun s xs P1 P2 h ⟨a, b, c, z, n, cs, e1, e2, h1, h2, h3, h4, q⟩ => ⟨a, b, c, z, n, cs, e1, e2, h1, h2, h3, h4, fun cs a' b' c' k1 k2 => h _ _ (q cs a' b' c' k1 k2)⟩
abbrev N_ot : List Str := ["_law_deck", "_law_width", "_law_clicks_here", "_law_at", "_law_way", "_law_column"]
theorem sc_ot : FnScope N_ot ["_law_deck", "_law_width", "_law_clicks_here"] (defScope s_ot) := ⟨rfl, rfl, rfl, by decide +kernel, rfl, by decide +kernel, by decide +kernel⟩
theorem dr_take {wd m k : Nat} {cs : List Int} (h : Dr wd m cs) : (cs.take k).length ≤ m ∧ ∀ c ∈ cs.take k, 0 ≤ c ∧ c < wd := ⟨by rw [List.length_take]; have := h.1; omega, fun c hc => h.2 c (List.mem_of_mem_take hc)⟩
theorem dr_drop {wd m k : Nat} {cs : List Int} (h : Dr wd m cs) : (cs.drop k).length ≤ m ∧ ∀ c ∈ cs.drop k, 0 ≤ c ∧ c < wd := ⟨by rw [List.length_drop]; have := h.1; omega, fun c hc => h.2 c (List.mem_of_mem_drop hc)⟩
theorem ok_ot (ml : mg "len" = none) (e1 : Cal P w K mg base "_law_draw" 1 ["_law_deck", "_law_many"] (GC K (pcA c_dr))) (e2 : Cal P w K mg base "_law_clicks" 2 ["_law_deck", "_law_width", "_law_most"] (GC K (pcAL c_cl))) :
    ∀ f fd, Fun K "_law_other" "_law_other" s_ot f fd → FnOk P w K mg base CX0 3 f fd ["_law_deck", "_law_width", "_law_clicks_here"] (GC K (pcAL c_ot)) := by
  refine ok_AL (fun s xs P1 ⟨_, _, _, _, _, _, _, e, _⟩ => by rw [e]; rfl) sc_ot (by decide) fun f cdv A outer s H E Γ _ hr s0 xs P1 _ h => ?_
  obtain ⟨a, b, c, wd, n, cs, rfl, rfl, hw0, hw, hC, hj, q⟩ := h
  have hl := hC.1
  refine ds_cons (ds_set 3 sc_ot.nd (h := d_callAD 0 (calW e1 (hr.mono (by decide))) m_dr (h := da_cons (h := d_add (h := d_len ml (h := ?_))))))
  walk_at "D"
  refine ⟨_, .inl rfl, ?_⟩
  walk_at "D"
  walk_at "ii"
  walk_at "D"
  refine ⟨_, _, rfl, rfl, rfl, a, b, c, _, n + 29, rfl, rfl, hj, by omega, by rw [List.length_map]; omega, fun k a b c k0 k1 hj => ⟨rfl, ?_⟩⟩
  obtain ⟨at_, rfl⟩ : ∃ at_ : Nat, k = (at_ : Nat) := ⟨k.toNat, by omega⟩
  refine ds_cons (ds_set 4 sc_ot.nd (h := d_callAD 0 (calW e1 (hr.mono (by decide))) m_dr (h := ?_)))
  walk_at "D"
  refine ⟨_, _, rfl, rfl, rfl, a, b, c, _, n + 28, rfl, rfl, hj, by decide, by decide, fun way a b c w0 w1 hj => ⟨rfl, ?_⟩⟩
  refine ds_cons (ds_set 5 sc_ot.nd (h := d_callAD 0 (calW e1 (hr.mono (by decide))) m_dr (h := ?_)))
  walk_at "D"
  refine ⟨_, _, rfl, rfl, rfl, a, b, c, _, n + 27, rfl, rfl, hj, by omega, by omega, fun col a b c c0 c1 hj => ⟨rfl, ?_⟩⟩
  have ct : cut (iL cs) none (some ((at_ : Nat) : Int)) = iL (cs.take at_) := by unfold iL; rw [cut_map, cut_up]
  have cd : ∀ k : Nat, cut (iL cs) (some ((k : Nat) : Int)) none = iL (cs.drop k) := fun k => by unfold iL; rw [cut_map, cut_fr]
  have c1' : cut (iL cs) none (some (1 : Int)) = iL (cs.take 1) := by unfold iL; rw [cut_map, show (1 : Int) = ((1 : Nat) : Int) from rfl, cut_up]
  have lt := dr_take (k := at_) hC
  have lt1 := dr_take (k := 1) hC
  have ld := dr_drop (k := at_) hC
  have ld1 := dr_drop (k := at_ + 1) hC
  try dsimp only [List.set]
  -- way 0
  refine ds_cons (ds_if (dt_cm (dc_i op_eqI (h := ?_))))
  walk_at "D"
  refine ⟨_, _, rfl, rfl, ifd (fun _ => ?_) fun _ => ds_nil ?_⟩
  · refine ds_one (ds_ret (d_cat (h := d_cat (h := d_slice (h := ?_)))))
    walk_at "D"
    refine ⟨_, rfl, _, rfl, ?_⟩
    walk_at "L"
    refine ⟨_, _, rfl, rfl, ?_, d_slice (h := ?_)⟩
    · rw [ct, List.length_map]
      exact Nat.le_trans (by simp; omega : _ ≤ 100) (by decide)
    walk_at "D"
    refine ⟨_, rfl, do_none ⟨_, rfl, _, _, rfl, rfl, ?_, ?_⟩⟩
    · rw [ct, cd, List.length_append, List.length_map, List.length_map]
      exact Nat.le_trans (by simp; omega : _ ≤ 100) (by decide)
    refine ⟨_, _, rfl, rfl, rfl, ?_⟩
    rw [ct, cd, show iL (cs.take at_) ++ [PyData.int col] ++ iL (cs.drop at_) = iL (cs.take at_ ++ [col] ++ cs.drop at_) by rw [← app_iL, ← app_iL]; rfl]
    refine q _ a b c ⟨by simp only [List.length_append, List.length_singleton]; omega, fun d hd => ?_⟩ (hj.le (by omega))
    simp only [List.mem_append, List.mem_singleton] at hd
    rcases hd with (hd | rfl) | hd
    · exact lt.2 d hd
    · exact ⟨c0, c1⟩
    · exact ld.2 d hd
  -- way 1
  refine ds_cons (ds_if (dt_cm (dc_i op_eqI (h := ?_))))
  walk_at "D"
  refine ⟨_, _, rfl, rfl, ifd (fun _ => ?_) fun _ => ds_nil ?_⟩
  · refine ds_one (ds_ret (d_cat (h := d_cat (h := d_slice (h := ?_)))))
    walk_at "D"
    refine ⟨_, rfl, _, rfl, ?_⟩
    walk_at "L"
    refine ⟨_, _, rfl, rfl, ?_, d_slice (h := ?_)⟩
    · rw [ct, List.length_map]
      exact Nat.le_trans (by simp; omega : _ ≤ 100) (by decide)
    walk_at "D"
    refine ⟨_, rfl, do_none ⟨_, rfl, _, _, rfl, rfl, ?_, ?_⟩⟩
    · rw [ct, cd, List.length_append, List.length_map, List.length_map]
      exact Nat.le_trans (by simp; omega : _ ≤ 100) (by decide)
    refine ⟨_, _, rfl, rfl, rfl, ?_⟩
    rw [ct, cd, show iL (cs.take at_) ++ [PyData.int col, PyData.int col] ++ iL (cs.drop at_) = iL (cs.take at_ ++ [col, col] ++ cs.drop at_) by rw [← app_iL, ← app_iL]; rfl]
    refine q _ a b c ⟨by simp only [List.length_append, List.length_cons, List.length_nil]; omega, fun d hd => ?_⟩ (hj.le (by omega))
    simp only [List.mem_append, List.mem_cons, List.not_mem_nil, or_false] at hd
    rcases hd with (hd | rfl | rfl) | hd
    · exact lt.2 d hd
    · exact ⟨c0, c1⟩
    · exact ⟨c0, c1⟩
    · exact ld.2 d hd
  -- way 2
  refine ds_cons (ds_if (dt_cm (dc_i op_eqI (h := ?_))))
  walk_at "D"
  refine ⟨_, _, rfl, rfl, ifd (fun _ => ?_) fun _ => ds_nil ?_⟩
  · refine ds_one (ds_ret (d_cat (h := d_slice (h := ?_))))
    walk_at "D"
    refine ⟨_, rfl, _, rfl, d_slice (h := ?_)⟩
    walk_at "D"
    refine d_add (h := ?_)
    walk_at "D"
    walk_at "ii"
    refine ⟨_, rfl, do_none ⟨_, rfl, _, _, rfl, rfl, ?_, ?_⟩⟩
    · rw [ct, show ((at_ : Nat) : Int) + 1 = ((at_ + 1 : Nat) : Int) by omega, cd, List.length_map, List.length_map]
      exact Nat.le_trans (by omega : _ ≤ 100) (by decide)
    refine ⟨_, _, rfl, rfl, rfl, ?_⟩
    rw [ct, show ((at_ : Nat) : Int) + 1 = ((at_ + 1 : Nat) : Int) by omega, cd, app_iL]
    refine q _ a b c ⟨by rw [List.length_append]; omega, fun d hd => ?_⟩ (hj.le (by omega))
    rcases List.mem_append.mp hd with hd | hd
    · exact lt.2 d hd
    · exact ld1.2 d hd
  -- way 3
  refine ds_cons (ds_if (dt_cm (dc_i op_eqI (h := ?_))))
  walk_at "D"
  refine ⟨_, _, rfl, rfl, ifd (fun _ => ?_) fun _ => ds_nil ?_⟩
  · refine ds_one (ds_ret (d_cat (h := d_slice (h := ?_))))
    walk_at "D"
    refine ⟨_, rfl, _, rfl, ?_⟩
    walk_at "D"
    refine ⟨_, _, rfl, rfl, ?_, ?_⟩
    · rw [c1', List.length_map, List.length_map]
      exact Nat.le_trans (by omega : _ ≤ 100) (by decide)
    refine ⟨_, _, rfl, rfl, rfl, ?_⟩
    rw [c1', app_iL]
    refine q _ a b c ⟨by rw [List.length_append]; omega, fun d hd => ?_⟩ (hj.le (by omega))
    rcases List.mem_append.mp hd with hd | hd
    · exact lt1.2 d hd
    · exact hC.2 d hd
  refine ds_one (ds_ret (d_callAL 0 (calW e2 (hr.mono (by decide))) m_cl (h := ?_)))
  walk_at "D"
  exact ⟨_, _, rfl, rfl, rfl, a, b, c, wd, 10, n, rfl, rfl, hw0, hw, by decide, hj.le (by omega), fun ds a b c hd hj => ⟨_, _, rfl, rfl, rfl, q ds a b c ⟨by have := hd.1; omega, hd.2⟩ hj⟩⟩
/-! _law_is_form_right -/
def rowD (r : Fm × Bool) : PyData := .tuple [fD r.1, .bool r.2]
def rowsM (F : Fm) : List (Fm × Bool) :=
  [(F, true), (([], true), false), (([(0, 1)], false), false), (([(0, 0)], true), false)] ++
  [((F.1 ++ F.1, true), false), (([(-1, 1)], true), false), (([], false), true)] ++
  [(([(3, 1), (0, -1)], !F.2), true), (([(3, -1)], true), true)] ++
  [(([(3, 2), (0, 1)], false), false), (([(1, 1), (0, 5)], true), false)] ++
  [(([(1, 1), (-1, 1)], false), false), (([(0, 1), (0, -1)], true), false)] ++
  [(([(0, 1), (1, 1), (0, -1)], false), false), (([(0, 1), (1, 1), (2, -1)], false), true)]
theorem rows_ok {F : Fm} (hS : Srt F.1) (hl : F.1.length ≤ 100) (hf : isfB F = true) : ∀ r ∈ rowsM F, isfB r.1 = r.2 ∧ Sm r.1.1 := by
  have sm : ∀ (K : List Ky), (decide (K.length ≤ 300) && K.all fun k => decide (k.1.natAbs ≤ 100000) && decide (k.2.natAbs ≤ 100000)) = true → Sm K := fun K h => by
    simp only [Bool.and_eq_true, decide_eq_true_eq, List.all_eq_true] at h
    exact h
  have dbl : isfB (F.1 ++ F.1, true) = false := by
    cases h : F.1 with
    | nil => rfl
    | cons k S =>
      have : ¬ (cols ((k :: S) ++ (k :: S))).Nodup := fun nd => by
        unfold cols at nd
        rw [List.map_append, List.nodup_append] at nd
        exact nd.2.2 k.1 List.mem_cons_self k.1 List.mem_cons_self rfl
      unfold isfB akB
      simp only
      rw [decide_eq_false this, Bool.and_false, Bool.false_and]
  have n1 : isfB ([(3, 1), (0, -1)], !F.2) = true := by cases F.2 <;> decide
  have s2 : Sm (F.1 ++ F.1) := ⟨by rw [List.length_append]; omega, fun k hk => by
    rcases List.mem_append.mp hk with h | h <;> exact (sm_of hS (by omega)).2 k h⟩
  intro r hr
  unfold rowsM at hr
  simp only [List.cons_append, List.nil_append, List.mem_cons, List.not_mem_nil, or_false] at hr
  rcases hr with rfl | rfl | rfl | rfl | rfl | rfl | rfl | rfl | rfl | rfl | rfl | rfl | rfl | rfl | rfl
  · exact ⟨hf, sm_of (K := F.1) hS (by omega)⟩
  · exact ⟨by decide, sm _ (by decide)⟩
  · exact ⟨by decide, sm _ (by decide)⟩
  · exact ⟨by decide, sm _ (by decide)⟩
  · exact ⟨dbl, s2⟩
  · exact ⟨by decide, sm _ (by decide)⟩
  · exact ⟨by decide, sm _ (by decide)⟩
  · exact ⟨n1, sm [(3, 1), (0, -1)] (by decide)⟩
  · exact ⟨by decide, sm _ (by decide)⟩
  · exact ⟨by decide, sm _ (by decide)⟩
  · exact ⟨by decide, sm _ (by decide)⟩
  · exact ⟨by decide, sm _ (by decide)⟩
  · exact ⟨by decide, sm _ (by decide)⟩
  · exact ⟨by decide, sm _ (by decide)⟩
  · exact ⟨by decide, sm _ (by decide)⟩
/-! .. -/
def c_ifr : PCon PyData := fun xs P => ∃ F : Fm, xs = [fD F] ∧ Srt F.1 ∧ F.1.length ≤ 100 ∧ isfB F = true ∧ P (.bool true)
theorem m_ifr : MonP c_ifr := fun xs P1 P2 h ⟨F, e, a, b, c, q⟩ => ⟨F, e, a, b, c, h _ q⟩
abbrev N_ifr : List Str := ["_law_form", "_law_keys_here", "_law_bound_here", "_law_rows", "_law_thing", "_law_due"]
theorem sc_ifr : FnScope N_ifr ["_law_form"] (defScope s_ifr) := ⟨rfl, rfl, rfl, by decide +kernel, rfl, by decide +kernel, by decide +kernel⟩
theorem ds_rho {X : Cx} {Γ : Gm} {ss : List Stmt} {ρ : Rho} {O : Out} (ρ' : Rho) (e : ρ = ρ') (q : DSs X Γ ss ρ' O) : DSs X Γ ss ρ O := e ▸ q
theorem ok_ifr (e1 : Cal P w K mg base "is_form" 2 ["form"] (GC K (pcD c_isf))) (e2 : CalK P w K mg base "is_form" 2 ["form"] ["form"] (fun xs => pick [0] xs) (GC K (pcD c_isf))) (e3 : Cal P w K mg base "_law_says" 1 ["_law_found", "_law_due"] (GC K (pcD c_sy))) :
    ∀ f fd, Fun K "_law_is_form_right" "_law_is_form_right" s_ifr f fd → FnOk P w K mg base CX0 3 f fd ["_law_form"] (GC K (pcD c_ifr)) := by
  refine ok_D m_ifr (fun xs P1 ⟨_, e, _⟩ => by rw [e]; rfl) sc_ifr (by decide) fun f cdv A outer s H E Γ _ hr xs P1 h => ?_
  obtain ⟨F, rfl, hS, hl, hf, q⟩ := h
  refine ds_cons (ds_asg (h := ?_))
  walk_at "D"
  refine ⟨_, rfl, dg_tup rfl (h := dgs_cons (h := dg_name 1 sc_ifr.nd (q := dgs_cons (h := dg_name 2 sc_ifr.nd (q := dgs_nil ?_)))))⟩
  refine ds_cons (ds_set 3 sc_ifr.nd (h := ?_))
  walk_at "L"
  refine ⟨rfl, ?_⟩
  try dsimp only [List.set]
  refine ds_cons (ds_set 3 sc_ifr.nd (h := d_cat (h := ?_)))
  walk_at "L"
  refine d_cat (h := ?_)
  walk_at "L"
  refine ⟨_, _, rfl, rfl, ?_, ?_⟩
  · rw [List.length_map]
    exact Nat.le_trans (by omega : _ ≤ 1000) (by decide)
  walk_at "L"
  refine ⟨_, _, rfl, rfl, Nat.le_of_ble_eq_true rfl, rfl, ?_⟩
  try dsimp only [List.set]
  refine ds_cons (ds_set 3 sc_ifr.nd (h := d_cat (h := ?_)))
  walk_at "L"
  refine ⟨_, _, rfl, rfl, Nat.le_of_ble_eq_true rfl, rfl, ?_⟩
  try dsimp only [List.set]
  refine ds_cons (ds_set 3 sc_ifr.nd (h := d_cat (h := ?_)))
  walk_at "L"
  refine ⟨_, _, rfl, rfl, Nat.le_of_ble_eq_true rfl, rfl, ?_⟩
  try dsimp only [List.set]
  refine ds_cons (ds_set 3 sc_ifr.nd (h := d_cat (h := ?_)))
  walk_at "L"
  refine ⟨_, _, rfl, rfl, Nat.le_of_ble_eq_true rfl, rfl, ?_⟩
  try dsimp only [List.set]
  refine ds_cons (ds_set 3 sc_ifr.nd (h := d_cat (h := ?_)))
  walk_at "L"
  refine ⟨_, _, rfl, rfl, Nat.le_of_ble_eq_true rfl, rfl, ?_⟩
  refine ds_freeze 3 rfl ?_
  refine ds_rho [.d (fD F), .d (kL F.1), .d (.bool F.2), .d (.list ((rowsM F).map rowD)), .no, .no] ?_ ?_
  · show [_, _, _, Sl.d _, _, _] = [_, _, _, Sl.d (.list ((rowsM F).map rowD)), _, _]
    unfold rowsM
    simp only [List.map_append, List.map_cons, List.map_nil, rowD, fD, kL]
    rfl
  have ok := rows_ok hS hl hf
  refine ds_cons (ds_for (fun i ρ => ∃ t u, ρ = [.d (fD F), .d (kL F.1), .d (.bool F.2), .d (.list ((rowsM F).map rowD)), t, u]) (h := di_list ?_))
  walk_at "D"
  refine ⟨_, rfl, ⟨_, _, rfl⟩, ?_, ?_⟩
  · rintro i z ρ2 hz ⟨t, u, rfl⟩ FF
    obtain ⟨r, h1, rfl⟩ := get_map hz
    obtain ⟨o1, o2⟩ := ok r (List.mem_of_getElem? h1)
    refine dg_tup rfl (h := dgs_cons (h := dg_name 4 sc_ifr.nd (q := dgs_cons (h := dg_name 5 sc_ifr.nd (q := dgs_nil ?_)))))
    refine ds_one (ds_if (dt_wb (db_or (h := dt_not (dt_val (d_callD (calW e3 (hr.mono (by decide))) m_sy (h := da_cons (h := d_callD (calW e1 (hr.mono (by decide))) m_isf (h := ?_)))))))))
    walk_at "D"
    refine ⟨_, rfl, r.1, rfl, o2, ?_⟩
    walk_at "D"
    refine ⟨_, rfl, _, _, rfl, _, rfl, iff_ (by rw [o1]; simp) ?_⟩
    refine db_or1 (dt_not (dt_val (d_callD (calW e3 (hr.mono (by decide))) m_sy (h := da_cons (h := d_callKD (g := fun {α} xs => pick [0] xs) e2 m_isf (hr.mono (by decide)) (dpA_pick [0]) (h := ?_))))))
    walk_at "D"
    refine ⟨rfl, _, rfl, r.1, rfl, o2, ?_⟩
    walk_at "D"
    exact ⟨_, rfl, _, _, rfl, _, rfl, iff_ (by rw [o1]; simp) (ds_nil ⟨_, _, rfl⟩)⟩
  · rintro ρ2 ⟨t, u, rfl⟩
    refine ds_one (ds_ret ?_)
    walk_at "D"
    exact ⟨_, rfl, q⟩
end
end K09
namespace K09
open PySem L2 Evl Lw Dw
/-! ### the first sorting apart, and columns moved on -/
def pt (cs ds : List Int) (K : List Ky) : Bool := !decide (clkd K cs = clkd K ds)
theorem cols_clk {K : List Ky} {c : Int} {k : Ky} (h : k ∈ clk K c) : k.1 ∈ cols K ∨ k.1 = c := by
  unfold clk at h
  cases K with
  | nil => simp at h; exact .inr (by rw [h])
  | cons x K' =>
    simp only at h
    split at h
    · rename_i e
      rcases List.mem_cons.mp h with rfl | h
      · exact .inr rfl
      · exact .inl (List.mem_map.mpr ⟨k, List.mem_cons_of_mem _ h, rfl⟩)
    · rcases List.mem_cons.mp h with rfl | h
      · exact .inr rfl
      · exact .inl (List.mem_map.mpr ⟨k, (List.mem_filter.mp h).1, rfl⟩)
theorem cols_in {cs : List Int} : ∀ {K : List Ky}, ∀ k ∈ clkd K cs, k.1 ∈ cols K ∨ k.1 ∈ cs := by
  unfold clkd
  induction cs with
  | nil => exact fun k hk => .inl (List.mem_map.mpr ⟨k, hk, rfl⟩)
  | cons c cs ih =>
    intro K k hk
    rcases ih (K := clk K c) k hk with h | h
    · obtain ⟨y, hy, e⟩ := List.mem_map.mp h
      rcases cols_clk hy with h2 | h2
      · exact .inl (e ▸ h2)
      · exact .inr (by rw [← e, h2]; exact List.mem_cons_self)
    · exact .inr (List.mem_cons_of_mem _ h)
theorem last_mem {A : List Ky} (h : A ≠ []) : ∃ k ∈ A, lastC A = k.1 ∧ flp A = A.dropLast ++ [(k.1, -k.2)] ∧ A = A.dropLast ++ [k] := by
  cases q : A.getLast? with
  | none => rw [List.getLast?_eq_none_iff] at q; exact absurd q h
  | some x =>
    refine ⟨x, List.mem_of_getLast? q, by unfold lastC; rw [q]; rfl, by unfold flp; rw [q], ?_⟩
    have e := List.dropLast_concat_getLast h
    have e2 : A.getLast h = x := by rw [List.getLast?_eq_some_getLast h] at q; exact Option.some.inj q
    rw [e2] at e
    exact e.symm
theorem flp_other {A : List Ky} (h : A ≠ []) (hs : ∀ k ∈ A, k.2 = 1 ∨ k.2 = -1) : flp A ≠ A := by
  obtain ⟨k, hk, _, e2, e3⟩ := last_mem h
  intro e
  rw [e2] at e
  have e4 : A.dropLast ++ [(k.1, -k.2)] = A.dropLast ++ [k] := e.trans e3
  have e5 := List.append_cancel_left e4
  have e6 : -k.2 = k.2 := congrArg Prod.snd (List.cons.inj e5).1
  have := hs k hk
  omega
def srtB (K : List Ky) : Bool := decide (cols K).Nodup && K.all fun k => (decide (k.2 = 1) || decide (k.2 = -1)) && decide (0 ≤ k.1) && decide (k.1 < 1000)
theorem srt_of {K : List Ky} (h : srtB K = true) : Srt K := by
  unfold srtB at h
  simp only [Bool.and_eq_true, decide_eq_true_eq, List.all_eq_true, Bool.or_eq_true] at h
  exact ⟨h.1, fun k hk => (h.2 k hk).1.1, fun k hk => ⟨(h.2 k hk).1.2, (h.2 k hk).2⟩⟩
theorem ev_srtB : ∀ w, w ≤ 3 → (evM w).all srtB = true := by decide +kernel
theorem ev_srt {w : Nat} (hw : w ≤ 3) : ∀ K ∈ evM w, Srt K := fun K hK => srt_of (List.all_eq_true.mp (ev_srtB w hw) K hK)
theorem ev_first : ∀ w, w ≤ 3 → ∀ c : Nat, c < w → ((evM w).filter fun K => decide (K.head? = some ((c : Int), 1))).head? = some [((c : Int), 1)] := by decide +kernel
theorem ev_nil (w : Nat) : ∃ l, evM w = [] :: l := by
  unfold evM
  have : ∀ n, ∃ l, fnd w n = [] :: l := fun n => by
    induction n with
    | zero => exact ⟨[], rfl⟩
    | succ n ih => obtain ⟨l, e⟩ := ih; exact ⟨l ++ layer w (n + 1), by show fnd w n ++ _ = _; rw [e]; rfl⟩
  exact this w
theorem part_tf {A : List Ky} {K : List Ky} (h : A ≠ []) (hs : ∀ k ∈ A, k.2 = 1 ∨ k.2 = -1) : fmd (A, true) K = fmd (A, false) K ↔ ¬ K.head? = some (lastC A, 1) := by
  unfold fmd
  simp only [Bool.true_and, Bool.false_and]
  rw [if_neg (show ¬ (false = true) by decide)]
  constructor
  · intro e h2
    rw [if_pos (by simpa using h2)] at e
    exact flp_other h hs (List.append_cancel_right e)
  · intro h2
    rw [if_neg (by simpa using h2)]
theorem srt0 {cs : List Int} (h : ∀ c ∈ cs, 0 ≤ c ∧ c < 1000) : Srt (fm cs).1 := srt_clkd srt_nil h
theorem fm_bn {cs : List Int} (h : (fm cs).2 = true) : (fm cs).1 ≠ [] := fun e => by
  have := (jn cs).n.mp e
  subst this
  exact absurd h (by decide)
theorem pt_fm {cs ds : List Int} {K : List Ky} (hK : Srt K) : pt cs ds K = !decide (fmd (fm cs) K = fmd (fm ds) K) := by
  unfold pt
  rw [form_does hK, form_does hK]
theorem last_lt {cs : List Int} {w : Nat} (h0 : (fm cs).1 ≠ []) (h : ∀ c ∈ cs, 0 ≤ c ∧ c < w) : ∃ c : Nat, c < w ∧ lastC (fm cs).1 = (c : Int) := by
  obtain ⟨k, hk, e, _⟩ := last_mem h0
  have hk2 : k ∈ clkd [] cs := hk
  rcases cols_in k hk2 with h1 | h1
  · cases h1
  · have := h _ h1
    exact ⟨k.1.toNat, by omega, by rw [e]; omega⟩
theorem fa_is {cs ds : List Int} {w : Nat} (hw : w ≤ 3) (h1 : ∀ c ∈ cs, 0 ≤ c ∧ c < w) (h2 : ∀ c ∈ ds, 0 ≤ c ∧ c < w) : faB cs ds = ((evM w).filter (pt cs ds)).head? := by
  have ec : (evM w).filter (pt cs ds) = (evM w).filter fun K => !decide (fmd (fm cs) K = fmd (fm ds) K) := List.filter_congr fun K hK => pt_fm (ev_srt hw K hK)
  have g1 : ∀ c ∈ cs, 0 ≤ c ∧ c < 1000 := fun c hc => by have := h1 c hc; omega
  have g2 : ∀ c ∈ ds, 0 ≤ c ∧ c < 1000 := fun c hc => by have := h2 c hc; omega
  unfold faB
  by_cases e : (fm cs).1 = (fm ds).1
  · rw [if_pos e, ec]
    have key : ∀ {as bs : List Int}, (∀ c ∈ as, 0 ≤ c ∧ c < 1000) → (∀ c ∈ as, 0 ≤ c ∧ c < w) → (fm as).1 = (fm bs).1 → (fm as).2 = true → (fm bs).2 = false → ((evM w).filter fun K => !decide (fmd (fm as) K = fmd (fm bs) K)).head? = some [(lastC (fm as).1, 1)] := by
      intro as bs g h e b1 b2
      have hn := fm_bn b1
      obtain ⟨c, hc, ecc⟩ := last_lt hn h
      rw [ecc, ← ev_first w hw c hc]
      congr 1
      refine List.filter_congr fun K _ => ?_
      have f1 : fm as = ((fm as).1, true) := Prod.ext rfl b1
      have f2 : fm bs = ((fm as).1, false) := Prod.ext e.symm b2
      have := part_tf (K := K) hn (srt0 g).sg
      rw [← f1, ← f2, ecc] at this
      by_cases z : K.head? = some ((c : Int), 1)
      · rw [decide_eq_true z, decide_eq_false (fun q => this.mp q z)]; rfl
      · rw [decide_eq_false z, decide_eq_true (this.mpr z)]; rfl
    by_cases b : (fm cs).2 = (fm ds).2
    · rw [if_pos b]
      have : fm cs = fm ds := Prod.ext e b
      rw [this]
      have e0 : ((evM w).filter fun K => !decide (fmd (fm ds) K = fmd (fm ds) K)) = [] := List.filter_eq_nil_iff.mpr fun K _ => by simp
      rw [e0]
      rfl
    · rw [if_neg b]
      cases q1 : (fm cs).2 with
      | true =>
        have q2 : (fm ds).2 = false := by cases q : (fm ds).2 with | true => exact absurd (q1.trans q.symm) b | false => rfl
        exact (key g1 h1 e q1 q2).symm
      | false =>
        have q2 : (fm ds).2 = true := by cases q : (fm ds).2 with | false => exact absurd (q1.trans q.symm) b | true => rfl
        have := key g2 h2 e.symm q2 q1
        rw [e, ← this]
        congr 1
        refine List.filter_congr fun K _ => ?_
        congr 1
        exact decide_eq_decide.mpr eq_comm
  · rw [if_neg e, ec]
    obtain ⟨l, el⟩ := ev_nil w
    rw [el, List.filter_cons]
    have : (!decide (fmd (fm cs) [] = fmd (fm ds) [])) = true := by
      rw [form_does srt_nil, form_does srt_nil]
      simp only [Bool.not_eq_true', decide_eq_false_iff_not]
      exact e
    rw [if_pos this]
    rfl
theorem fa_none {cs ds : List Int} : faB cs ds = none ↔ fm cs = fm ds := by
  unfold faB
  by_cases e : (fm cs).1 = (fm ds).1
  · rw [if_pos e]
    by_cases b : (fm cs).2 = (fm ds).2
    · rw [if_pos b]; exact ⟨fun _ => Prod.ext e b, fun _ => rfl⟩
    · rw [if_neg b]; exact ⟨fun h => (nomatch h), fun h => absurd (congrArg Prod.snd h) b⟩
  · rw [if_neg e]; exact ⟨fun h => (nomatch h), fun h => absurd (congrArg Prod.fst h) e⟩
theorem fa_comm (cs ds : List Int) : faB cs ds = faB ds cs := by
  unfold faB
  by_cases e : (fm cs).1 = (fm ds).1
  · rw [if_pos e, if_pos e.symm, e]
    by_cases b : (fm cs).2 = (fm ds).2
    · rw [if_pos b, if_pos b.symm]
    · rw [if_neg b, if_neg (Ne.symm b)]
  · rw [if_neg e, if_neg (Ne.symm e)]
def mv (f : Int) (cs : List Int) : List Int := cs.map (· + f)
def mk1 (f : Int) (k : Ky) : Ky := (k.1 + f, k.2)
def mk (f : Int) (K : List Ky) : List Ky := K.map (mk1 f)
theorem mk_clk (f : Int) (K : List Ky) (c : Int) : clk (mk f K) (c + f) = mk f (clk K c) := by
  unfold clk
  cases K with
  | nil => rfl
  | cons k K' =>
    show (if k.1 + f = c + f then (c + f, -k.2) :: mk f K' else (c + f, 1) :: (mk f (k :: K')).filter (ne (c + f))) = _
    by_cases e : k.1 = c
    · rw [if_pos (by omega)]
      simp only
      rw [if_pos e]
      rfl
    · rw [if_neg (by omega)]
      simp only
      rw [if_neg e]
      show _ = (c + f, 1) :: mk f _
      congr 1
      unfold mk
      rw [List.filter_map]
      congr 1
      refine List.filter_congr fun x _ => ?_
      show (!decide (x.1 + f = c + f)) = !decide (x.1 = c)
      congr 1
      exact decide_eq_decide.mpr ⟨fun h => by omega, fun h => by omega⟩
theorem mk_clkd (f : Int) : ∀ (cs : List Int) (K : List Ky), clkd (mk f K) (mv f cs) = mk f (clkd K cs) := by
  intro cs
  unfold clkd mv
  induction cs with
  | nil => exact fun _ => rfl
  | cons c cs ih => exact fun K => by rw [List.map_cons, List.foldl_cons, List.foldl_cons, mk_clk, ih]
theorem mv_dw (f c : Int) : ∀ cs : List Int, (mv f cs).dropWhile (· == c + f) = mv f (cs.dropWhile (· == c))
  | [] => rfl
  | x :: cs => by
    show ((x + f) :: mv f cs).dropWhile _ = _
    rw [List.dropWhile_cons, List.dropWhile_cons]
    by_cases e : x = c
    · subst e
      rw [if_pos (by simp), if_pos (by simp), mv_dw f x cs]
    · rw [if_neg (by simp; omega), if_neg (by simpa using e)]
      rfl
theorem mv_bnd (f : Int) : ∀ cs, bnd (mv f cs) = bnd cs
  | [] => rfl
  | c :: cs => by
    show (!((mv f cs).dropWhile (· == c + f)).contains (c + f)) = !((cs.dropWhile (· == c)).contains c)
    rw [mv_dw]
    congr 1
    rw [Bool.eq_iff_iff]
    simp only [List.contains_eq_mem, decide_eq_true_eq]
    unfold mv
    constructor
    · intro h
      obtain ⟨y, hy, e⟩ := List.mem_map.mp h
      have : y = c := by omega
      exact this ▸ hy
    · exact fun h => List.mem_map.mpr ⟨c, h, rfl⟩
theorem mv_fm (f : Int) (cs : List Int) : fm (mv f cs) = (mk f (fm cs).1, (fm cs).2) := Prod.ext (mk_clkd f cs []) (mv_bnd f cs)
theorem mk_inj {f : Int} {A B : List Ky} (h : mk f A = mk f B) : A = B := by
  unfold mk at h
  refine (List.map_inj_right ?_).mp h
  intro x y e
  have e1 := congrArg Prod.fst e
  have e2 := congrArg Prod.snd e
  simp only [mk1] at e1 e2
  exact Prod.ext (by omega) e2
theorem mk_last {f : Int} {A : List Ky} (h : A ≠ []) : lastC (mk f A) = lastC A + f := by
  unfold lastC mk
  rw [List.getLast?_map]
  cases q : A.getLast? with
  | none => rw [List.getLast?_eq_none_iff] at q; exact absurd q h
  | some x => rfl
theorem mv_fa (f : Int) (cs ds : List Int) : faB (mv f cs) (mv f ds) = (faB cs ds).map (mk f) := by
  unfold faB
  rw [mv_fm, mv_fm]
  simp only
  by_cases e : (fm cs).1 = (fm ds).1
  · rw [if_pos (congrArg (mk f) e), if_pos e]
    by_cases b : (fm cs).2 = (fm ds).2
    · rw [if_pos b, if_pos b]; rfl
    · rw [if_neg b, if_neg b]
      have hn : (fm cs).1 ≠ [] := by
        cases q1 : (fm cs).2 with
        | true => exact fm_bn q1
        | false =>
          have q2 : (fm ds).2 = true := by cases q : (fm ds).2 with | false => exact absurd (q1.trans q.symm) b | true => rfl
          exact e ▸ fm_bn q2
      rw [mk_last hn]
      rfl
  · rw [if_neg (fun h => e (mk_inj h)), if_neg e]
    rfl
end K09
namespace K09
open PySem L2 Evl Lw Dw
section
variable {P : Program} {w : World} {K : PySem.W.Frag} {mg : Str → Option Value} {base : Heap}
theorem sm_clkd {S : List Ky} {cs : List Int} (h : Srt S) (hl : S.length ≤ 100) (hc : Cl cs) : Sm (clkd S cs) := sm_of (srt_clkd h hc.2) (by
  have := len_clkd S cs
  have := hc.1
  omega)
theorem fl_oK {o : Option (List Ky)} (h : ∀ S, o = some S → Sm S) : Fl (oK o) 2 (505 * 300) := by
  cases o with
  | none => exact fl_none.mono (by decide) (by decide)
  | some S => exact fl_kL (h S rfl)
theorem ev_sm {w : Nat} (hw : w ≤ 3) : ∀ S ∈ evM w, Sm S ∧ S.length ≤ 100 := by
  have key : ∀ w, w ≤ 3 → (evM w).all (fun S => decide (S.length ≤ 100)) = true := by decide +kernel
  intro S hS
  have := List.all_eq_true.mp (key w hw) S hS
  have h2 : S.length ≤ 100 := of_decide_eq_true this
  exact ⟨sm_of (ev_srt hw S hS) (by omega), h2⟩
/-! _law_alike_right -/
def c_alr : PCon PyData := fun xs P => ∃ (wd : Nat) (cs ds : List Int), xs = [.int (wd : Nat), .list (iL cs), .list (iL ds)] ∧ wd ≤ 3 ∧ Dr wd 100 cs ∧ Dr wd 100 ds ∧ P (.bool true)
theorem m_alr : MonP c_alr := fun xs P1 P2 h ⟨wd, cs, ds, e, a, b, c, q⟩ => ⟨wd, cs, ds, e, a, b, c, h _ q⟩
abbrev N_alr : List Str := ["_law_width", "_law_one", "_law_other_here", "_law_apart", "_law_keys_here", "_law_due", "_law_kept"]
theorem sc_alr : FnScope N_alr ["_law_width", "_law_one", "_law_other_here"] (defScope s_alr) := ⟨rfl, rfl, rfl, by decide +kernel, rfl, by decide +kernel, by decide +kernel⟩
def apD (B : List (List Ky)) (y : PyData) : Option PyData := if (B.any fun K => PyData.eqv (kL K) y) = true then some y else none
theorem ap_kL {B : List (List Ky)} {S : List Ky} : apD B (kL S) = if decide (S ∈ B) = true then some (kL S) else none := by
  unfold apD
  have : (B.any fun K => PyData.eqv (kL K) (kL S)) = decide (S ∈ B) := by
    rw [Bool.eq_iff_iff, List.any_eq_true, decide_eq_true_eq]
    constructor
    · rintro ⟨K, hK, e⟩
      rw [eqv_kL] at e
      exact of_decide_eq_true e ▸ hK
    · intro h
      exact ⟨S, h, by rw [eqv_kL]; exact decide_eq_true rfl⟩
  rw [this]
theorem ok_alr (mrep : mg "repr" = none) (mi : mg "isinstance" = none) (e1 : Cal P w K mg base "_law_every" 1 ["_law_width"] (GC K (pcL c_ev))) (e2 : Cal P w K mg base "_law_after" 2 ["_law_keys_here", "_law_clicks_here"] (GC K (pcD c_af)))
    (e3 : Cal P w K mg base "_law_says" 1 ["_law_found", "_law_due"] (GC K (pcD c_sy))) (e4 : Cal P w K mg base "alike" 4 ["one", "other"] (GC K (pcD c_al))) (e4k : CalK P w K mg base "alike" 4 ["one", "other"] ["other", "one"] (fun xs => pick [1, 0] xs) (GC K (pcD c_al)))
    (e5 : Cal P w K mg base "first_apart" 4 ["one", "other"] (GC K (pcD c_fa))) (e5k : CalK P w K mg base "first_apart" 4 ["one", "other"] ["other", "one"] (fun xs => pick [1, 0] xs) (GC K (pcD c_fa))) :
    ∀ f fd, Fun K "_law_alike_right" "_law_alike_right" s_alr f fd → FnOkG P w K mg base 5 f fd ["_law_width", "_law_one", "_law_other_here"] (GC K (pcD c_alr)) := by
  refine ok_DG m_alr (fun xs P1 ⟨_, _, _, e, _⟩ => by rw [e]; rfl) sc_alr (by decide) fun f cdv A outer s H E Γ hq hr xs P1 h => ?_
  obtain ⟨wd, cs, ds, rfl, hw, hc, hd, q⟩ := h
  have hC : Cl cs := hc.cl (by omega) (by omega)
  have hD : Cl ds := hd.cl (by omega) (by omega)
  obtain ⟨B, hB⟩ : ∃ B, B = (evM wd).filter (pt cs ds) := ⟨_, rfl⟩
  have fa := fa_is hw hc.2 hd.2
  rw [← hB] at fa
  have hBev : ∀ S ∈ B, S ∈ evM wd := fun S hS => (List.mem_filter.mp (hB ▸ hS)).1
  have el : ∀ w, w ≤ 3 → (evM w).length ≤ 300 := fun w hw => fnds_ok w hw w hw
  have hBl : B.length ≤ 300 := by
    rw [hB]
    exact Nat.le_trans (List.length_filter_le _ _) (el wd hw)
  have fB : Fl (.list (B.map kL)) 3 ((505 * 300 + 1) * 300) := fl_list (fun x hx => by
    obtain ⟨S, hS, rfl⟩ := List.mem_map.mp hx
    exact fl_kL (ev_sm hw S (hBev S hS)).1) (by rw [List.length_map]; exact hBl)
  have fK : Fl (oK (faB cs ds)) 2 (505 * 300) := fl_oK fun S hS => by
    rw [fa] at hS
    exact (ev_sm hw S (hBev S (List.mem_of_head? hS))).1
  have R70 := room70 hr
  refine ds_cons (ds_setLc 3 [("_law_keys_here", 4)] sc_alr.nd (ok := blkOk_by (N := N_alr) (sc := defScope s_alr) (by decide +kernel)) (h := di_list (d_callL (calW e1 (hr.mono (by decide))) m_ev (h := ?_))))
  walk_at "D"
  refine ⟨_, rfl, wd, rfl, hw, _, rfl, LcI.pure (apD B) (by rw [List.length_map]; exact Nat.lt_of_le_of_lt (el wd hw) (by decide)) rfl ?_ ?_⟩
  · intro i x hx s H0 C cl fp
    obtain ⟨S, hS, rfl⟩ := get_map hx
    have hSm := List.mem_of_getElem? hS
    obtain ⟨sS, lS⟩ := ev_sm hw S hSm
    have sr := ev_srt hw S hSm
    refine dg_name 4 sc_alr.nd (q := ⟨by decide, ?_⟩)
    intro s H0 C cl fp
    refine dts_one (dt_cm (dc_ne (Nat.lt_of_succ_lt (room65 hr)) (h := d_callD (calW e2 (hr.mono (by decide))) m_af (h := ?_))))
    walk_at "D"
    refine ⟨_, rfl, S, cs, rfl, sr, lS, hC, _, rfl, d_callD (calW e2 (hr.mono (by decide))) m_af (h := ?_)⟩
    walk_at "D"
    refine ⟨_, rfl, S, ds, rfl, sr, lS, hD, _, rfl, (fl_kL (sm_clkd sr lS hC)).okD, (fl_kL (sm_clkd sr lS hD)).okD, ?_⟩
    rw [eqv_kL]
    have em : decide (S ∈ B) = !decide (clkd S cs = clkd S ds) := by
      rw [hB, Bool.eq_iff_iff, decide_eq_true_eq, List.mem_filter]
      exact ⟨fun h => h.2, fun h => ⟨hSm, h⟩⟩
    refine ifb (fun hb => ?_) fun hb => ⟨by rw [ap_kL, em, hb]; rfl, rfl⟩
    intro s H0 C cl fp
    walk_at "D"
    exact ⟨_, rfl, by rw [ap_kL, em, hb]; rfl, rfl⟩
  rw [fm_map2f (p := fun S => decide (S ∈ B)) (g := kL) (evM wd) fun S _ => ap_kL]
  rw [show (evM wd).filter (fun S => decide (S ∈ B)) = B by
    rw [hB]
    refine List.filter_congr fun S hS => ?_
    rw [Bool.eq_iff_iff, decide_eq_true_eq, List.mem_filter]
    exact ⟨fun h => h.2, fun h => ⟨hS, h⟩⟩]
  refine ds_freeze 3 rfl ?_
  try dsimp only [wipeR, List.map, List.set]
  refine ds_cons (ds_set 5 sc_alr.nd (h := d_ix (h := d_cat (h := ?_))))
  walk_at "L"
  refine ⟨_, _, rfl, rfl, ?_, ?_⟩
  · rw [List.length_map]
    exact Nat.le_trans (by simp; omega : _ ≤ 400) (by decide)
  walk_at "D"
  refine ⟨_, _, oK (faB cs ds), .inl rfl, rfl, ?_, rfl, ?_⟩
  · rw [fa]
    cases B with
    | nil => exact at0
    | cons S B => exact at0
  try dsimp only [wipeR, List.map, List.set]
  refine ds_cons (ds_set 6 sc_alr.nd (h := d_repr hq R70 mrep (h := ?_)))
  walk_at "L"
  have fR : Fl (.list [.list (iL cs), .list (iL ds)]) 2 ((252 * 100 + 1) * 2) := fl_list (fun x hx => by
    simp only [List.mem_cons, List.not_mem_nil, or_false] at hx
    rcases hx with rfl | rfl
    · exact fl_cs hC
    · exact fl_cs hD) (by simp)
  refine ⟨fR.okR, rfl, ?_⟩
  try dsimp only [wipeR, List.map, List.set]
  have eB : PyData.eqv (.list (B.map kL)) (.list []) = decide (fm cs = fm ds) := by
    rw [PyData.eqv]
    rw [Bool.eq_iff_iff, decide_eq_true_eq, ← fa_none, fa]
    cases B with
    | nil => exact ⟨fun _ => rfl, fun _ => rfl⟩
    | cons S B => exact ⟨fun h => (by simp [PyData.eqvAll] at h), fun h => nomatch h⟩
  have d0 : okD (.list []) = true := rfl
  refine ds_cons (ds_if (dt_wb (db_or (h := dt_not (dt_val (d_callD (calW e3 (hr.mono (by decide))) m_sy (h := da_cons (h := d_callD (calW e4 (hr.mono (by decide))) m_al (h := ?_)))))))))
  walk_at "D"
  refine ⟨_, rfl, cs, ds, rfl, hC, hD, da_cons (h := d_cm (dc_eq (Nat.lt_of_succ_lt (room65 hr)) (h := ?_)))⟩
  walk_at "L"
  refine ⟨fB.okD, d0, ?_⟩
  walk_at "D"
  refine ⟨_, rfl, _, _, rfl, _, rfl, iff_ (by rw [eB]; simp) ?_⟩
  refine db_or1 (dt_not (dt_val (d_callD (calW e3 (hr.mono (by decide))) m_sy (h := da_cons (h := d_callKD (g := fun {α} xs => pick [1, 0] xs) e4k m_al (hr.mono (by decide)) (dpA_pick [1, 0]) (h := ?_))))))
  walk_at "D"
  refine ⟨rfl, _, rfl, ds, cs, rfl, hD, hC, da_cons (h := d_cm (dc_eq (Nat.lt_of_succ_lt (room65 hr)) (h := ?_)))⟩
  walk_at "L"
  refine ⟨fB.okD, d0, ?_⟩
  walk_at "D"
  refine ⟨_, rfl, _, _, rfl, _, rfl, iff_ (by rw [eB, show decide (fm ds = fm cs) = decide (fm cs = fm ds) from decide_eq_decide.mpr eq_comm]; simp) (ds_nil ?_)⟩
  refine ds_cons (ds_if (dt_wb (db_or (h := dt_cm (dc_ne (Nat.lt_of_succ_lt (room65 hr)) (h := d_callD (calW e5 (hr.mono (by decide))) m_fa (h := ?_)))))))
  walk_at "D"
  refine ⟨_, rfl, cs, ds, rfl, hC, hD, _, rfl, ?_⟩
  walk_at "D"
  refine ⟨_, rfl, fK.okD, fK.okD, iff_ (by rw [fK.eqv]; rfl) ?_⟩
  refine db_or1 (dt_cm (dc_ne (Nat.lt_of_succ_lt (room65 hr)) (h := d_callKD (g := fun {α} xs => pick [1, 0] xs) e5k m_fa (hr.mono (by decide)) (dpA_pick [1, 0]) (h := ?_))))
  walk_at "D"
  refine ⟨rfl, _, rfl, ds, cs, rfl, hD, hC, _, rfl, ?_⟩
  walk_at "D"
  refine ⟨_, rfl, by rw [fa_comm]; exact fK.okD, fK.okD, iff_ (by rw [fa_comm, fK.eqv]; rfl) (ds_nil ?_)⟩
  refine ds_one (ds_ret (d_cm (dc_seq (h := d_repr hq R70 mrep (h := ?_)))))
  walk_at "L"
  refine ⟨fR.okR, ?_⟩
  walk_at "D"
  refine ⟨_, _, rfl, rfl, _, rfl, ?_⟩
  simpa using q
end
end K09
namespace K09
open PySem L2 Evl Lw Dw
section
variable {P : Program} {w : World} {K : PySem.W.Frag} {mg : Str → Option Value} {base : Heap}
/-! _law_far_right -/
def adD (f : Int) : PyData → Option PyData
  | .int c => some (.int (c + f))
  | _ => none
def mkD (f : Int) : PyData → Option PyData
  | .tuple [.int c, .int s] => some (.tuple [.int (c + f), .int s])
  | _ => none
theorem ad_iL {f : Int} {cs : List Int} : (iL cs).filterMap (adD f) = iL (mv f cs) := by
  rw [fm_iL (g := fun c => .int (c + f)) cs fun c _ => rfl]
  unfold iL mv
  rw [List.map_map]
  rfl
theorem mk_kL {f : Int} {K : List Ky} : (K.map kD).filterMap (mkD f) = (mk f K).map kD := by
  rw [fm_map2 (f := mkD f) (g := fun k => kD (mk1 f k)) K fun k _ => rfl]
  unfold mk
  rw [List.map_map]
  rfl
theorem mv_cl {f : Nat} {cs : List Int} {wd m : Nat} (h : Dr wd m cs) (hm : m ≤ 100) (hw : wd + f ≤ 1000) : Cl (mv f cs) := ⟨by unfold mv; rw [List.length_map]; exact Nat.le_trans h.1 hm, fun c hc => by
  unfold mv at hc
  obtain ⟨d, hd, rfl⟩ := List.mem_map.mp hc
  have := h.2 d hd
  omega⟩
theorem mk_srt {f wd : Nat} {K : List Ky} (h : Srt K) (hk : ∀ k ∈ K, k.1 < wd) (hw : wd + f ≤ 1000) : Srt (mk f K) := by
  have e : cols (mk f K) = (cols K).map (· + (f : Int)) := by unfold cols mk; rw [List.map_map, List.map_map]; rfl
  refine ⟨?_, ?_, ?_⟩
  · rw [e]
    exact List.pairwise_map.mpr (h.nd.imp fun hne e => hne (by omega))
  · intro k hk2
    obtain ⟨d, hd, rfl⟩ := List.mem_map.mp hk2
    exact h.sg d hd
  · intro k hk2
    obtain ⟨d, hd, rfl⟩ := List.mem_map.mp hk2
    have h1 := h.rg d hd
    have h2 := hk d hd
    show 0 ≤ d.1 + (f : Int) ∧ d.1 + (f : Int) < 1000
    omega
theorem mk_len {f : Int} {K : List Ky} : (mk f K).length = K.length := by unfold mk; rw [List.length_map]
theorem isn_oK {o : Option (List Ky)} : isNn (oK o) = o.isNone := by cases o <;> rfl
def c_far : ACon PyData := fun s xs P => ∃ (a b c : Int) (n : Nat), s = .pl (J3 a b c) ∧ xs = [] ∧ JOk (n + 80) b c ∧ ∀ a' b' c', JOk n b' c' → P (.bool true) (.pl (J3 a' b' c'))
theorem m_far : MonA c_far := fun s xs P1 P2 h ⟨a, b, c, n, e1, e2, h1, q⟩ => ⟨a, b, c, n, e1, e2, h1, fun a' b' c' k1 => h _ _ (q a' b' c' k1)⟩
abbrev N_far : List Str := ["_law_deck", "_law_far", "_law_clicks_here", "_law_keys_here", "_law_bound_here", "_law_moved", "_law_column", "_law_sign", "_law_other_here", "_law_apart", "_law_told", "_law_sorting", "_law_found"]
theorem sc_far : FnScope N_far ["_law_deck"] (defScope s_far) := ⟨rfl, rfl, rfl, by decide +kernel, rfl, by decide +kernel, by decide +kernel⟩
theorem ok_far (e1 : Cal P w K mg base "_law_draw" 1 ["_law_deck", "_law_many"] (GC K (pcA c_dr))) (e2 : Cal P w K mg base "_law_clicks" 2 ["_law_deck", "_law_width", "_law_most"] (GC K (pcAL c_cl))) (e3 : Cal P w K mg base "form_of" 3 ["clicks"] (GC K (pcD c_fo)))
    (e4 : Cal P w K mg base "_law_other" 3 ["_law_deck", "_law_width", "_law_clicks_here"] (GC K (pcAL c_ot))) (e5 : Cal P w K mg base "first_apart" 4 ["one", "other"] (GC K (pcD c_fa))) (e6 : Cal P w K mg base "alike" 4 ["one", "other"] (GC K (pcD c_al)))
    (e7 : Cal P w K mg base "_law_keys" 2 ["_law_deck", "_law_width"] (GC K (pcAL c_ks))) (e8 : Cal P w K mg base "formed" 4 ["form", "sorting"] (GC K (pcL c_fd))) (e9 : Cal P w K mg base "_law_after" 2 ["_law_keys_here", "_law_clicks_here"] (GC K (pcD c_af))) :
    ∀ f fd, Fun K "_law_far_right" "_law_far_right" s_far f fd → FnOk P w K mg base CX0 5 f fd ["_law_deck"] (GC K (pcA c_far)) := by
  refine ok_A m_far (fun s xs P1 ⟨_, _, _, _, _, e, _⟩ => by rw [e]; rfl) sc_far (by decide) fun f cdv A outer s H E Γ _ hr s0 xs P1 _ h => ?_
  obtain ⟨a, b, c, n, rfl, rfl, hj, q⟩ := h
  have u64 := Nat.lt_of_succ_lt (room65 hr)
  refine ds_rho [.pl (J3 a b c), .no, .no, .no, .no, .no, .no, .no, .no, .no, .no, .no, .no] rfl ?_
  refine ds_cons (ds_set 1 sc_far.nd (h := d_add (h := d_int (q := d_callAD 0 (calW e1 (hr.mono (by decide))) m_dr (h := ?_)))))
  walk_at "D"
  refine ⟨_, _, rfl, rfl, rfl, a, b, c, _, n + 79, rfl, rfl, hj, by decide, by decide, fun f0 a b c k0 k1 hj => ?_⟩
  walk_at "ii"
  obtain ⟨fr, hfr⟩ : ∃ fr : Nat, 1 + f0 = (fr : Nat) := ⟨(1 + f0).toNat, by omega⟩
  rw [hfr]
  have hfr2 : fr ≤ 57 := by omega
  refine ⟨rfl, ?_⟩
  try dsimp only [wipeR, List.map, List.set]
  refine ds_cons (ds_set 2 sc_far.nd (h := d_callAL 0 (calW e2 (hr.mono (by decide))) m_cl (h := ?_)))
  walk_at "D"
  refine ⟨_, _, rfl, rfl, rfl, a, b, c, 3, 10, n + 58, rfl, rfl, by decide, by decide, by decide, hj.le (by omega), fun cs a b c hc hj => ⟨rfl, ds_freeze 2 rfl ?_⟩⟩
  have hC : Cl cs := hc.cl (by decide) (by decide)
  have sK := fm_srt hC
  have sKl := fm_len hC
  try dsimp only [wipeR, List.map, List.set]
  refine ds_cons (ds_asg (h := d_callD (calW e3 (hr.mono (by decide))) m_fo (h := ?_)))
  walk_at "D"
  refine ⟨_, rfl, cs, rfl, hC, _, rfl, dg_tup rfl (h := dgs_cons (h := dg_name 3 sc_far.nd (q := dgs_cons (h := dg_name 4 sc_far.nd (q := dgs_nil ?_)))))⟩
  try dsimp only [wipeR, List.map, List.set]
  have hV : Cl (mv fr cs) := mv_cl hc (by decide) (by omega)
  refine ds_cons (ds_set 5 sc_far.nd (h := d_callD (calW e3 (hr.mono (by decide))) m_fo (h := da_cons (h := d_lc [("_law_column", 6)] sc_far.nd (ok := blkOk_by (N := N_far) (sc := defScope s_far) (by decide +kernel)) (h := di_list (h := ?_))))))
  walk_at "D"
  refine ⟨_, rfl, LcI.pure (adD fr) (by rw [List.length_map]; exact Nat.lt_of_le_of_lt hC.1 (by decide)) rfl ?_ ?_⟩
  · intro i x hx s H0 C cl fp
    obtain ⟨c1, hc1, rfl⟩ := get_map hx
    refine dg_name 6 sc_far.nd (q := ⟨by decide, ?_⟩)
    intro s H0 C cl fp
    refine dts_nil (ift rfl ?_)
    intro s H0 C cl fp
    refine d_add (h := ?_)
    walk_at "D"
    walk_at "ii"
    exact ⟨_, rfl, rfl, rfl⟩
  rw [ad_iL]
  walk_at "D"
  refine ⟨_, rfl, _, rfl, hV, rfl, ?_⟩
  rw [mv_fm]
  try dsimp only [wipeR, List.map, List.set]
  have kin : ∀ k ∈ (fm cs).1, k.1 < (3 : Nat) := fun k hk => by
    rcases cols_in (K := []) k hk with h1 | h1
    · cases h1
    · exact (hc.2 _ h1).2
  have sM : Srt (mk fr (fm cs).1) := mk_srt sK kin (by omega)
  have smM : Sm (mk fr (fm cs).1) := sm_of sM (by rw [mk_len]; omega)
  have fF : Fl (fD (mk fr (fm cs).1, (fm cs).2)) 3 ((505 * 300 + 1) * 2) := fl_fD smM
  refine ds_cons (ds_if (dt_cm (dc_ne u64 (h := ?_))))
  walk_at "D"
  refine ⟨_, rfl, d_tup (da_cons (h := d_lc [("_law_column", 6), ("_law_sign", 7)] sc_far.nd (ok := blkOk_by (N := N_far) (sc := defScope s_far) (by decide +kernel)) (h := di_list (h := ?_))))⟩
  walk_at "D"
  refine ⟨_, rfl, LcI.pure (mkD fr) (by rw [List.length_map]; exact Nat.lt_of_le_of_lt sKl (by decide)) rfl ?_ ?_⟩
  · intro i x hx s H0 C cl fp
    obtain ⟨k1, hk1, rfl⟩ := get_map hx
    refine dg_tup rfl (h := dgs_cons (h := dg_name 6 sc_far.nd (q := dgs_cons (h := dg_name 7 sc_far.nd (q := dgs_nil ⟨by decide, ?_⟩)))))
    intro s H0 C cl fp
    refine dts_nil (ift rfl ?_)
    intro s H0 C cl fp
    refine d_tup (da_cons (h := d_add (h := ?_)))
    walk_at "D"
    walk_at "ii"
    walk_at "L"
    exact ⟨rfl, rfl⟩
  rw [mk_kL]
  walk_at "D"
  refine ⟨_, rfl, by show 2 ≤ sizeLine; decide, _, rfl, fF.okD, fF.okD, iff_ (by rw [fF.eqv]; rfl) (ds_nil ?_)⟩
  try dsimp only [wipeR, List.map, List.set]
  refine ds_cons (ds_set 8 sc_far.nd (h := d_callAL 0 (calW e4 (hr.mono (by decide))) m_ot (h := ?_)))
  walk_at "D"
  refine ⟨_, _, rfl, rfl, rfl, a, b, c, 3, n + 28, cs, rfl, rfl, by decide, by decide, hc, hj.le (by omega), fun ds a b c hd hj => ⟨rfl, ds_freeze 8 rfl ?_⟩⟩
  have hD : Cl ds := hd.cl (by decide) (by decide)
  have hW : Cl (mv fr ds) := mv_cl hd (by decide) (by omega)
  obtain ⟨o, ho⟩ : ∃ o, o = faB cs ds := ⟨_, rfl⟩
  have ho2 : faB (mv fr cs) (mv fr ds) = o.map (mk fr) := by rw [mv_fa, ← ho]
  have osm : ∀ S, o = some S → S.length ≤ 100 ∧ Sm S ∧ Sm (mk fr S) := fun S hS => by
    rw [ho, fa_is (w := 3) (by decide) hc.2 hd.2] at hS
    have hm := (List.mem_filter.mp (List.mem_of_head? hS)).1
    obtain ⟨s1, s2⟩ := ev_sm (w := 3) (by decide) S hm
    refine ⟨s2, s1, by rw [mk_len]; omega, fun k hk => ?_⟩
    obtain ⟨d, hd, rfl⟩ := List.mem_map.mp hk
    have := (ev_srt (w := 3) (by decide) S hm).rg d hd
    have := (ev_srt (w := 3) (by decide) S hm).sg d hd
    show (d.1 + (fr : Int)).natAbs ≤ 100000 ∧ d.2.natAbs ≤ 100000
    omega
  try dsimp only [wipeR, List.map, List.set]
  refine ds_cons (ds_set 9 sc_far.nd (h := d_callD (calW e5 (hr.mono (by decide))) m_fa (h := ?_)))
  walk_at "D"
  refine ⟨_, rfl, cs, ds, rfl, hC, hD, rfl, ?_⟩
  rw [← ho]
  try dsimp only [wipeR, List.map, List.set]
  refine ds_cons (ds_set 10 sc_far.nd (h := d_callD (calW e5 (hr.mono (by decide))) m_fa (h := da_cons (h := d_lc [("_law_column", 6)] sc_far.nd (ok := blkOk_by (N := N_far) (sc := defScope s_far) (by decide +kernel)) (h := di_list (h := ?_))))))
  walk_at "D"
  refine ⟨_, rfl, LcI.pure (adD fr) (by rw [List.length_map]; exact Nat.lt_of_le_of_lt hC.1 (by decide)) rfl ?_ ?_⟩
  · intro i x hx s H0 C cl fp
    obtain ⟨c1, hc1, rfl⟩ := get_map hx
    refine dg_name 6 sc_far.nd (q := ⟨by decide, ?_⟩)
    intro s H0 C cl fp
    refine dts_nil (ift rfl ?_)
    intro s H0 C cl fp
    refine d_add (h := ?_)
    walk_at "D"
    walk_at "ii"
    exact ⟨_, rfl, rfl, rfl⟩
  rw [ad_iL]
  refine da_cons (h := d_lc [("_law_column", 6)] sc_far.nd (ok := blkOk_by (N := N_far) (sc := defScope s_far) (by decide +kernel)) (h := di_list (h := ?_)))
  walk_at "D"
  refine ⟨_, rfl, LcI.pure (adD fr) (by rw [List.length_map]; exact Nat.lt_of_le_of_lt hD.1 (by decide)) rfl ?_ ?_⟩
  · intro i x hx s H0 C cl fp
    obtain ⟨c1, hc1, rfl⟩ := get_map hx
    refine dg_name 6 sc_far.nd (q := ⟨by decide, ?_⟩)
    intro s H0 C cl fp
    refine dts_nil (ift rfl ?_)
    intro s H0 C cl fp
    refine d_add (h := ?_)
    walk_at "D"
    walk_at "ii"
    exact ⟨_, rfl, rfl, rfl⟩
  rw [ad_iL]
  walk_at "D"
  refine ⟨_, rfl, _, _, rfl, hV, hW, rfl, ?_⟩
  rw [ho2]
  try dsimp only [wipeR, List.map, List.set]
  refine ds_cons (ds_if (dt_cm (dc_bne (h := d_cm (dc_isN (h := ?_))))))
  walk_at "D"
  refine ⟨_, rfl, ?_⟩
  walk_at "D"
  refine ⟨_, rfl, rfl, d_cm (dc_isN (h := ?_))⟩
  walk_at "D"
  refine ⟨_, rfl, ?_⟩
  walk_at "D"
  refine ⟨_, rfl, rfl, _, _, rfl, rfl, iff_ (by rw [isn_oK, isn_oK]; cases o <;> rfl) (ds_nil ?_)⟩
  try dsimp only [wipeR, List.map, List.set]
  refine ds_cons (ds_if (dt_cm (dc_bne (h := d_callD (calW e6 (hr.mono (by decide))) m_al (h := da_cons (h := d_lc [("_law_column", 6)] sc_far.nd (ok := blkOk_by (N := N_far) (sc := defScope s_far) (by decide +kernel)) (h := di_list (h := ?_))))))))
  walk_at "D"
  refine ⟨_, rfl, LcI.pure (adD fr) (by rw [List.length_map]; exact Nat.lt_of_le_of_lt hC.1 (by decide)) rfl ?_ ?_⟩
  · intro i x hx s H0 C cl fp
    obtain ⟨c1, hc1, rfl⟩ := get_map hx
    refine dg_name 6 sc_far.nd (q := ⟨by decide, ?_⟩)
    intro s H0 C cl fp
    refine dts_nil (ift rfl ?_)
    intro s H0 C cl fp
    refine d_add (h := ?_)
    walk_at "D"
    walk_at "ii"
    exact ⟨_, rfl, rfl, rfl⟩
  rw [ad_iL]
  refine da_cons (h := d_lc [("_law_column", 6)] sc_far.nd (ok := blkOk_by (N := N_far) (sc := defScope s_far) (by decide +kernel)) (h := di_list (h := ?_)))
  walk_at "D"
  refine ⟨_, rfl, LcI.pure (adD fr) (by rw [List.length_map]; exact Nat.lt_of_le_of_lt hD.1 (by decide)) rfl ?_ ?_⟩
  · intro i x hx s H0 C cl fp
    obtain ⟨c1, hc1, rfl⟩ := get_map hx
    refine dg_name 6 sc_far.nd (q := ⟨by decide, ?_⟩)
    intro s H0 C cl fp
    refine dts_nil (ift rfl ?_)
    intro s H0 C cl fp
    refine d_add (h := ?_)
    walk_at "D"
    walk_at "ii"
    exact ⟨_, rfl, rfl, rfl⟩
  rw [ad_iL]
  walk_at "D"
  refine ⟨_, rfl, _, _, rfl, hV, hW, d_cm (dc_isN (h := ?_))⟩
  walk_at "D"
  refine ⟨_, rfl, ?_⟩
  walk_at "D"
  refine ⟨_, rfl, rfl, _, _, rfl, rfl, iff_ ?_ (ds_nil ?_)⟩
  · rw [isn_oK, ho]
    have h1 := fa_none (cs := cs) (ds := ds)
    have h2 := fa_none (cs := mv fr cs) (ds := mv fr ds)
    rw [mv_fa] at h2
    by_cases z : fm cs = fm ds
    · have e : faB cs ds = none := h1.mpr z
      rw [e] at h2 ⊢
      rw [decide_eq_true (h2.mp rfl)]
      rfl
    · cases e : faB cs ds with
      | none => exact absurd (h1.mp e) z
      | some S =>
        rw [e] at h2
        rw [decide_eq_false (fun y => nomatch h2.mpr y)]
        rfl
  try dsimp only [wipeR, List.map, List.set]
  refine ds_cons (ds_if (dt_to false ?_ (iff_ rfl (ds_nil ?_))))
  · refine dt_wb (db_and (h := dt_cm (dc_notN (h := ?_))))
    walk_at "D"
    refine ⟨_, rfl, ?_⟩
    walk_at "D"
    refine ⟨_, rfl, rfl, ?_⟩
    rw [isn_oK]
    cases e : o with
    | none => exact iff_ rfl ⟨rfl, by first | rfl | trivial⟩
    | some S =>
      obtain ⟨l1, l2, l3⟩ := osm S e
      refine ift rfl (db_and1 (dt_cm (dc_ne u64 (h := ?_))))
      walk_at "D"
      refine ⟨_, rfl, d_lc [("_law_column", 6), ("_law_sign", 7)] sc_far.nd (ok := blkOk_by (N := N_far) (sc := defScope s_far) (by decide +kernel)) (h := di_list (h := ?_))⟩
      walk_at "D"
      refine ⟨_, rfl, LcI.pure (mkD fr) (by rw [List.length_map]; exact Nat.lt_of_le_of_lt l1 (by decide)) rfl ?_ ?_⟩
      · intro i x hx s H0 C cl fp
        obtain ⟨k1, hk1, rfl⟩ := get_map hx
        refine dg_tup rfl (h := dgs_cons (h := dg_name 6 sc_far.nd (q := dgs_cons (h := dg_name 7 sc_far.nd (q := dgs_nil ⟨by decide, ?_⟩)))))
        intro s H0 C cl fp
        refine dts_nil (ift rfl ?_)
        intro s H0 C cl fp
        refine d_tup (da_cons (h := d_add (h := ?_)))
        walk_at "D"
        walk_at "ii"
        walk_at "L"
        exact ⟨rfl, rfl⟩
      rw [mk_kL]
      refine ⟨_, rfl, (fl_kL l3).okD, (fl_kL l3).okD, ?_, by first | rfl | trivial⟩
      rw [show oK ((some S).map (mk fr)) = kL (mk fr S) from rfl, (fl_kL l3).eqv]
      rfl
  try dsimp only [wipeR, List.map, List.set]
  refine ds_cons (ds_set 11 sc_far.nd (h := d_callAL 0 (calW e7 (hr.mono (by decide))) m_ks (h := ?_)))
  walk_at "D"
  refine ⟨_, _, rfl, rfl, rfl, a, b, c, 3, n + 20, rfl, rfl, by decide, hj.le (by omega), fun S a b c hS hl hk hj => ⟨rfl, ds_freeze 11 rfl ?_⟩⟩
  have sN : Srt (mk fr S) := mk_srt hS hk (by omega)
  try dsimp only [wipeR, List.map, List.set]
  refine ds_cons (ds_set 12 sc_far.nd (h := d_callL (calW e8 (hr.mono (by decide))) m_fd (h := ?_)))
  walk_at "D"
  refine d_lc [("_law_column", 6), ("_law_sign", 7)] sc_far.nd (ok := blkOk_by (N := N_far) (sc := defScope s_far) (by decide +kernel)) (h := di_list (h := ?_))
  walk_at "D"
  refine ⟨_, rfl, LcI.pure (mkD fr) (by rw [List.length_map]; exact Nat.lt_of_le_of_lt (show S.length ≤ 3 from hl) (by decide)) rfl ?_ ?_⟩
  · intro i x hx s H0 C cl fp
    obtain ⟨k1, hk1, rfl⟩ := get_map hx
    refine dg_tup rfl (h := dgs_cons (h := dg_name 6 sc_far.nd (q := dgs_cons (h := dg_name 7 sc_far.nd (q := dgs_nil ⟨by decide, ?_⟩)))))
    intro s H0 C cl fp
    refine dts_nil (ift rfl ?_)
    intro s H0 C cl fp
    refine d_tup (da_cons (h := d_add (h := ?_)))
    walk_at "D"
    walk_at "ii"
    walk_at "L"
    exact ⟨rfl, rfl⟩
  rw [mk_kL]
  walk_at "D"
  refine ⟨_, rfl, (mk fr (fm cs).1, (fm cs).2), mk fr S, rfl, sM, by rw [mk_len]; exact sKl, sN, by rw [mk_len]; omega, ?_, rfl, ds_freeze 12 rfl ?_⟩
  · rw [← mv_fm]
    exact fm_isf hV
  try dsimp only [wipeR, List.map, List.set]
  have ef : fmd (mk fr (fm cs).1, (fm cs).2) (mk fr S) = mk fr (clkd S cs) := by rw [← mv_fm, form_does sN, mk_clkd]
  rw [ef]
  have sC := srt_clkd hS hC.2
  have lC : (clkd S cs).length ≤ 103 := by
    have := len_clkd S cs
    have := hC.1
    omega
  have fE : Fl (kL (mk fr (clkd S cs))) 2 (505 * 300) := fl_kL (by
    rw [← mk_clkd]
    exact sm_clkd sN (by rw [mk_len]; omega) hV)
  refine ds_one (ds_ret (d_cm (dc_eq u64 (h := ?_))))
  walk_at "D"
  refine ⟨_, rfl, d_lc [("_law_column", 6), ("_law_sign", 7)] sc_far.nd (ok := blkOk_by (N := N_far) (sc := defScope s_far) (by decide +kernel)) (h := di_list (d_callD (calW e9 (hr.mono (by decide))) m_af (h := ?_)))⟩
  walk_at "D"
  refine ⟨_, rfl, S, cs, rfl, hS, by omega, hC, ?_⟩
  refine ⟨_, rfl, LcI.pure (mkD fr) (by rw [List.length_map]; exact Nat.lt_of_le_of_lt lC (by decide)) rfl ?_ ?_⟩
  · intro i x hx s H0 C cl fp
    obtain ⟨k1, hk1, rfl⟩ := get_map hx
    refine dg_tup rfl (h := dgs_cons (h := dg_name 6 sc_far.nd (q := dgs_cons (h := dg_name 7 sc_far.nd (q := dgs_nil ⟨by decide, ?_⟩)))))
    intro s H0 C cl fp
    refine dts_nil (ift rfl ?_)
    intro s H0 C cl fp
    refine d_tup (da_cons (h := d_add (h := ?_)))
    walk_at "D"
    walk_at "ii"
    walk_at "L"
    exact ⟨rfl, rfl⟩
  rw [mk_kL]
  refine ⟨_, rfl, fE.okD, fE.okD, ?_⟩
  rw [fE.eqv]
  exact ⟨_, _, rfl, rfl, rfl, q a b c (hj.le (by omega))⟩
end
end K09
namespace K09
open PySem L2 Evl Lw Dw
section
variable {P : Program} {w : World} {K : PySem.W.Frag} {mg : Str → Option Value} {base : Heap}
/-! _law_many_right -/
def plD (ps : List Int) : PyData → Option PyData
  | .int i => some (.int (ps.getD i.toNat 0))
  | _ => none
def plc (ps ns : List Int) : List Int := ns.map fun i => ps.getD i.toNat 0
theorem pl_iL {ps ns : List Int} : (iL ns).filterMap (plD ps) = iL (plc ps ns) := by
  rw [fm_iL (g := fun c => .int (ps.getD c.toNat 0)) ns fun c _ => rfl]
  unfold iL plc
  rw [List.map_map]
  rfl
theorem pl_at {ps ns : List Int} {k m : Nat} (hp : ps.length = k) (h : Dr k m ns) {i : Int} (hi : i ∈ ns) : ∃ (n : Nat) (y : Int), i = (n : Nat) ∧ ps[n]? = some y := by
  have := h.2 i hi
  exact ⟨i.toNat, ps[i.toNat]'(by omega), by omega, List.getElem?_eq_getElem (by omega)⟩
theorem pl_d {ps : List Int} {n : Nat} {y : Int} (h : ps[n]? = some y) : plD ps (.int (n : Nat)) = some (.int y) := by
  unfold plD
  simp only [Int.toNat_natCast, List.getD_eq_getElem?_getD, h]
  rfl
theorem pl_dr {ps ns : List Int} {k m : Nat} (hp : Dr 60 100 ps) (h : Dr k m ns) : Dr 60 m (plc ps ns) := ⟨by unfold plc; rw [List.length_map]; exact h.1, fun c hc => by
  obtain ⟨i, hi, rfl⟩ := List.mem_map.mp hc
  rw [List.getD_eq_getElem?_getD]
  cases q : ps[i.toNat]? with
  | none => exact ⟨Int.le_refl _, by show (0 : Int) < 60; decide⟩
  | some y => exact hp.2 y (List.mem_of_getElem? q)⟩
def c_man : ACon PyData := fun s xs P => ∃ (a b c : Int) (n : Nat), s = .pl (J3 a b c) ∧ xs = [] ∧ JOk (n + 160) b c ∧ ∀ a' b' c', JOk n b' c' → P (.bool true) (.pl (J3 a' b' c'))
theorem m_man : MonA c_man := fun s xs P1 P2 h ⟨a, b, c, n, e1, e2, h1, q⟩ => ⟨a, b, c, n, e1, e2, h1, fun a' b' c' k1 => h _ _ (q a' b' c' k1)⟩
abbrev N_man : List Str := ["_law_deck", "_law_places", "_law_turn", "_law_clicks_here", "_law_number", "_law_form", "_law_keys_here"]
theorem sc_man : FnScope N_man ["_law_deck"] (defScope s_man) := ⟨rfl, rfl, rfl, by decide +kernel, rfl, by decide +kernel, by decide +kernel⟩
theorem ok_man (ml : mg "len" = none) (mr : mg "range" = none) (mint : mg "int" = none) (e1 : Cal P w K mg base "_law_draw" 1 ["_law_deck", "_law_many"] (GC K (pcA c_dr))) (e2 : Cal P w K mg base "_law_clicks" 2 ["_law_deck", "_law_width", "_law_most"] (GC K (pcAL c_cl))) (e3 : Cal P w K mg base "form_of" 3 ["clicks"] (GC K (pcD c_fo)))
    (e4 : Cal P w K mg base "_law_bound" 1 ["_law_clicks_here"] (GC K (pcD c_ib))) (e5 : Cal P w K mg base "is_form" 2 ["form"] (GC K (pcD c_isf))) (e8 : Cal P w K mg base "formed" 4 ["form", "sorting"] (GC K (pcL c_fd))) (e9 : Cal P w K mg base "_law_after" 2 ["_law_keys_here", "_law_clicks_here"] (GC K (pcD c_af))) :
    ∀ f fd, Fun K "_law_many_right" "_law_many_right" s_man f fd → FnOk P w K mg base CX0 5 f fd ["_law_deck"] (GC K (pcA c_man)) := by
  refine ok_A m_man (fun s xs P1 ⟨_, _, _, _, _, e, _⟩ => by rw [e]; rfl) sc_man (by decide) fun f cdv A outer s H E Γ _ hr s0 xs P1 _ h => ?_
  obtain ⟨a, b, c, n, rfl, rfl, hj, q⟩ := h
  have u64 := Nat.lt_of_succ_lt (room65 hr)
  refine ds_rho [.pl (J3 a b c), .no, .no, .no, .no, .no, .no] rfl ?_
  refine ds_cons (ds_set 1 sc_man.nd (h := d_lc [("_law_turn", 2)] sc_man.nd (ok := blkOk_by (N := N_man) (sc := defScope s_man) (by decide +kernel)) (h := di_rng1 mr (h := d_add (h := d_int (q := d_callAD 0 (calW e1 (hr.mono (by decide))) m_dr (h := ?_)))))))
  walk_at "D"
  refine ⟨_, _, rfl, rfl, rfl, a, b, c, _, n + 159, rfl, rfl, hj, by decide, by decide, fun k a b c k0 k1 hj => ?_⟩
  walk_at "ii"
  obtain ⟨cnt, hcnt⟩ : ∃ cnt : Nat, 1 + k = (cnt : Nat) := ⟨(1 + k).toNat, by omega⟩
  rw [hcnt]
  have hc12 : 1 ≤ cnt ∧ cnt ≤ 12 := by omega
  refine ⟨_, rfl, by omega, by omega, by rw [rng_len, Int.toNat_natCast]; exact Nat.lt_of_le_of_lt hc12.2 (by decide), rfl, fun i acc ρ => ∃ (ps : List Int) (a b c : Int), acc = iL ps ∧ ps.length = i ∧ (∀ p ∈ ps, 0 ≤ p ∧ p < (60 : Nat)) ∧ JOk (n + 159 - i) b c ∧ ρ = [.pl (J3 a b c), .no, .no, .no, .no, .no, .no], ⟨[], a, b, c, rfl, rfl, by simp, hj, rfl⟩, ?_, ?_⟩
  · rintro i x acc ρ2 hx ⟨ps, a, b, c, rfl, hl, hin, hj, rfl⟩ s H0 C cl fp
    obtain ⟨hi, rfl⟩ := rng_at hx
    rw [Int.toNat_natCast] at hi
    refine dg_name 2 sc_man.nd (q := ⟨by decide, ?_⟩)
    intro s H0 C cl fp
    refine dts_nil (ift rfl ?_)
    intro s H0 C cl fp
    refine d_callAD 0 (calW e1 (hr.mono (by decide))) m_dr (h := ?_)
    walk_at "D"
    refine ⟨_, _, rfl, rfl, rfl, a, b, c, _, n + 159 - (i + 1), rfl, rfl, hj.le (by omega), by decide, by decide, fun p a b c k0 k1 hj => ?_⟩
    refine ⟨_, rfl, ps ++ [p], a, b, c, by unfold iL; rw [List.map_append]; rfl, by rw [List.length_append, hl]; rfl, ?_, hj, rfl⟩
    intro d hd
    rcases List.mem_append.mp hd with h | h
    · exact hin d h
    · rw [List.mem_singleton.mp h]; exact ⟨k0, k1⟩
  rintro acc ρ2 ⟨ps, a, b, c, rfl, hpl, hin, hj, rfl⟩
  rw [rng_len, Int.toNat_natCast] at hpl hj
  have hP : Dr 60 100 ps := ⟨by omega, hin⟩
  refine ⟨rfl, ds_freeze 1 rfl ?_⟩
  try dsimp only [wipeR, List.map, List.set]
  refine ds_cons (ds_setLc 3 [("_law_number", 4)] sc_man.nd (ok := blkOk_by (N := N_man) (sc := defScope s_man) (by decide +kernel)) (h := di_list (d_callAL 0 (calW e2 (hr.mono (by decide))) m_cl (h := da_cons (h := d_len ml (h := ?_))))))
  walk_at "D"
  refine ⟨_, .inl rfl, da_cons (h := d_ix (h := ?_))⟩
  walk_at "L"
  refine d_int1 mint (h := d_cm (dc_i op_eqI (h := d_callAD 0 (calW e1 (hr.mono (by decide))) m_dr (h := ?_))))
  walk_at "D"
  refine ⟨_, _, rfl, rfl, rfl, a, b, c, _, n + 146, rfl, rfl, hj.le (by omega), by decide, by decide, fun k a b c k0 k1 hj => ?_⟩
  walk_at "D"
  refine ⟨_, _, rfl, rfl, ?_⟩
  obtain ⟨big, hbig⟩ : ∃ big : Bool, big = decide (k = 0) := ⟨_, rfl⟩
  rw [← hbig]
  obtain ⟨mo, hmo, hmo2⟩ : ∃ mo : Nat, mo ≤ 60 ∧ (atI [PyData.int 15, PyData.int 60] (if big = true then 1 else 0) = some (.int (mo : Nat))) := by
    cases big with
    | true => exact ⟨60, by decide, atI_nat (j := 1) rfl⟩
    | false => exact ⟨15, by decide, atI_nat (j := 0) rfl⟩
  refine ⟨_, .inr ⟨_, rfl, rfl⟩, _, _, _, .inl rfl, rfl, hmo2, ?_⟩
  walk_at "D"
  rw [List.length_map, hpl]
  refine ⟨_, _, rfl, rfl, rfl, a, b, c, cnt, mo, n + 25, rfl, rfl, by omega, by omega, hmo, hj.le (by omega), fun ns a b c hn hj => ?_⟩
  refine ⟨_, rfl, LcI.pure (plD ps) (by rw [List.length_map]; exact Nat.lt_of_le_of_lt (Nat.le_trans hn.1 hmo) (by decide)) rfl ?_ ?_⟩
  · intro i x hx s H0 C cl fp
    obtain ⟨m1, hm1, rfl⟩ := get_map hx
    obtain ⟨m2, y, rfl, hy⟩ := pl_at hpl hn (List.mem_of_getElem? hm1)
    refine dg_name 4 sc_man.nd (q := ⟨by decide, ?_⟩)
    intro s H0 C cl fp
    refine dts_nil (ift rfl ?_)
    intro s H0 C cl fp
    refine d_ix (h := ?_)
    walk_at "D"
    exact ⟨_, _, .int y, .inl rfl, rfl, atI_nat (by show (ps.map PyData.int)[m2]? = _; rw [List.getElem?_map, hy]; rfl), _, rfl, pl_d hy, rfl⟩
  rw [pl_iL]
  refine ds_freeze 3 rfl ?_
  have hc := pl_dr hP hn
  obtain ⟨cs, hcs⟩ : ∃ cs, cs = plc ps ns := ⟨_, rfl⟩
  rw [← hcs] at hc ⊢
  have hC : Cl cs := hc.cl (by decide) (by omega)
  have sK := fm_srt hC
  have sKl := fm_len hC
  have fF : Fl (fD (fm cs)) 3 ((505 * 300 + 1) * 2) := fl_fD (fm_sm hC)
  try dsimp only [wipeR, List.map, List.set]
  refine ds_cons (ds_set 5 sc_man.nd (h := d_callD (calW e3 (hr.mono (by decide))) m_fo (h := ?_)))
  walk_at "D"
  refine ⟨_, rfl, cs, rfl, hC, rfl, ?_⟩
  try dsimp only [wipeR, List.map, List.set]
  refine ds_cons (ds_if (dt_wb (db_or (h := dt_cm (dc_ne u64 (h := ?_))))))
  walk_at "D"
  refine ⟨_, rfl, d_tup (da_cons (h := d_callD (calW e9 (hr.mono (by decide))) m_af (h := ?_)))⟩
  walk_at "L"
  refine ⟨[], cs, rfl, srt_nil, by decide, hC, da_cons (h := d_callD (calW e4 (hr.mono (by decide))) m_ib (h := ?_))⟩
  walk_at "D"
  refine ⟨_, rfl, cs, rfl, hC, ?_⟩
  walk_at "D"
  refine ⟨_, rfl, by show 2 ≤ sizeLine; decide, _, rfl, fF.okD, fF.okD, iff_ (by rw [show PyData.tuple [kL (clkd [] cs), .bool (bnd cs)] = fD (fm cs) from rfl, fF.eqv]; rfl) ?_⟩
  refine db_or1 (dt_cm (dc_isnB (h := d_callD (calW e5 (hr.mono (by decide))) m_isf (h := ?_))))
  walk_at "D"
  refine ⟨_, rfl, fm cs, rfl, fm_sm hC, ?_⟩
  walk_at "D"
  refine ⟨_, _, rfl, rfl, iff_ (by rw [fm_isf hC]; rfl) (ds_nil ?_)⟩
  try dsimp only [wipeR, List.map, List.set]
  refine ds_cons (ds_set 6 sc_man.nd (h := d_callD (calW e9 (hr.mono (by decide))) m_af (h := ?_)))
  walk_at "L"
  refine d_lc [("_law_number", 4)] sc_man.nd (ok := blkOk_by (N := N_man) (sc := defScope s_man) (by decide +kernel)) (h := di_list (d_callAL 0 (calW e2 (hr.mono (by decide))) m_cl (h := da_cons (h := d_len ml (h := ?_)))))
  walk_at "D"
  refine ⟨_, .inl rfl, ?_⟩
  walk_at "D"
  rw [List.length_map, hpl]
  refine ⟨_, _, rfl, rfl, rfl, a, b, c, cnt, 9, n, rfl, rfl, by omega, by omega, by decide, hj.le (by omega), fun ms a b c hm hj => ?_⟩
  refine ⟨_, rfl, LcI.pure (plD ps) (by rw [List.length_map]; exact Nat.lt_of_le_of_lt hm.1 (by decide)) rfl ?_ ?_⟩
  · intro i x hx s H0 C cl fp
    obtain ⟨m1, hm1, rfl⟩ := get_map hx
    obtain ⟨m2, y, rfl, hy⟩ := pl_at hpl hm (List.mem_of_getElem? hm1)
    refine dg_name 4 sc_man.nd (q := ⟨by decide, ?_⟩)
    intro s H0 C cl fp
    refine dts_nil (ift rfl ?_)
    intro s H0 C cl fp
    refine d_ix (h := ?_)
    walk_at "D"
    exact ⟨_, _, .int y, .inl rfl, rfl, atI_nat (by show (ps.map PyData.int)[m2]? = _; rw [List.getElem?_map, hy]; rfl), _, rfl, pl_d hy, rfl⟩
  rw [pl_iL]
  walk_at "D"
  have hd := pl_dr hP hm
  obtain ⟨ds, hds⟩ : ∃ ds, ds = plc ps ms := ⟨_, rfl⟩
  rw [← hds] at hd ⊢
  have hD : Cl ds := hd.cl (by decide) (by omega)
  refine ⟨_, rfl, [], ds, rfl, srt_nil, by decide, hD, rfl, ?_⟩
  try dsimp only [wipeR, List.map, List.set]
  have sS : Srt (clkd [] ds) := srt_clkd srt_nil hD.2
  have lS : (clkd [] ds).length ≤ 9 := by
    have := len_clkd [] ds
    have := hd.1
    simp at *
    omega
  have fE : Fl (kL (clkd (clkd [] ds) cs)) 2 (505 * 300) := fl_kL (sm_clkd sS (by omega) hC)
  refine ds_one (ds_ret (d_cm (dc_eq u64 (h := d_callL (calW e8 (hr.mono (by decide))) m_fd (h := ?_)))))
  walk_at "D"
  refine ⟨_, rfl, fm cs, clkd [] ds, rfl, sK, sKl, sS, by omega, fm_isf hC, _, rfl, d_callD (calW e9 (hr.mono (by decide))) m_af (h := ?_)⟩
  walk_at "D"
  refine ⟨_, rfl, clkd [] ds, cs, rfl, sS, by omega, hC, _, rfl, ?_⟩
  rw [form_does sS]
  refine ⟨fE.okD, fE.okD, ?_⟩
  rw [fE.eqv]
  exact ⟨_, _, rfl, rfl, rfl, q a b c hj⟩
end
end K09
namespace K09
open PySem L2 Evl Lw Dw
section
variable {P : Program} {w : World} {K : PySem.W.Frag} {mg : Str → Option Value} {base : Heap}
/-! _law_right -/
def c_ri : ACon PyData := fun s xs P => ∃ (a b c : Int), s = .pl (J3 a b c) ∧ xs = [] ∧ JOk 900000 b c ∧ ∀ s, P (.bool true) s
theorem m_ri : MonA c_ri := fun s xs P1 P2 h ⟨a, b, c, e1, e2, h1, q⟩ => ⟨a, b, c, e1, e2, h1, fun s => h _ _ (q s)⟩
abbrev N_ri : List Str := ["_law_deck", "_law_width", "_law_one", "_law_other_here", "_law_clicks_here", "_law_kept", "_law_form", "_law_every_here", "_law_turn", "_law_keys_here", "_law_found"]
theorem sc_ri : FnScope N_ri ["_law_deck"] (defScope s_ri) := ⟨rfl, rfl, rfl, by decide +kernel, rfl, by decide +kernel, by decide +kernel⟩
def GS (Ss : List (List Ky)) : Prop := Ss.length ≤ 300 ∧ ∀ S ∈ Ss, Srt S ∧ S.length ≤ 100
theorem eqv_more (y : PyData) : ∀ K : List Ky, PyData.eqvAll (K.map kD) (K.map kD ++ [y]) = false
  | [] => rfl
  | k :: K => by
    rw [List.map_cons, List.cons_append, PyData.eqvAll, eqv_more y K, Bool.and_false]
theorem ok_ri (mrep : mg "repr" = none) (mr : mg "range" = none) (mi : mg "isinstance" = none) (mb : mg "bool" = none) (e1 : Cal P w K mg base "_law_draw" 1 ["_law_deck", "_law_many"] (GC K (pcA c_dr))) (e2 : Cal P w K mg base "_law_clicks" 2 ["_law_deck", "_law_width", "_law_most"] (GC K (pcAL c_cl)))
    (e3 : Cal P w K mg base "_law_other" 3 ["_law_deck", "_law_width", "_law_clicks_here"] (GC K (pcAL c_ot))) (e4 : Cal P w K mg base "form_of" 3 ["clicks"] (GC K (pcD c_fo))) (e4k : CalK P w K mg base "form_of" 3 ["clicks"] ["clicks"] (fun xs => pick [0] xs) (GC K (pcD c_fo)))
    (e5 : Cal P w K mg base "_law_after" 2 ["_law_keys_here", "_law_clicks_here"] (GC K (pcD c_af))) (e6 : Cal P w K mg base "_law_bound" 1 ["_law_clicks_here"] (GC K (pcD c_ib))) (e7 : Cal P w K mg base "_law_is_form_right" 3 ["_law_form"] (GC K (pcD c_ifr)))
    (e8 : Cal P w K mg base "_law_keys" 2 ["_law_deck", "_law_width"] (GC K (pcAL c_ks))) (e9 : Cal P w K mg base "_law_every" 1 ["_law_width"] (GC K (pcL c_ev))) (e10 : Cal P w K mg base "formed" 4 ["form", "sorting"] (GC K (pcL c_fd))) (e10k : CalK P w K mg base "formed" 4 ["form", "sorting"] ["sorting", "form"] (fun xs => pick [1, 0] xs) (GC K (pcL c_fd)))
    (e11 : CalG P w K mg base "_law_alike_right" 5 ["_law_width", "_law_one", "_law_other_here"] (GC K (pcD c_alr))) (e12 : Cal P w K mg base "_law_far_right" 5 ["_law_deck"] (GC K (pcA c_far))) (e13 : Cal P w K mg base "_law_many_right" 5 ["_law_deck"] (GC K (pcA c_man))) :
    ∀ f fd, Fun K "_law_right" "_law_right" s_ri f fd → FnOkG P w K mg base 6 f fd ["_law_deck"] (GC K (pcA c_ri)) := by
  refine ok_AG m_ri (fun s xs P1 ⟨_, _, _, _, e, _⟩ => by rw [e]; rfl) sc_ri (by decide) fun f cdv A outer s H E Γ hq hr s0 xs P1 _ h => ?_
  obtain ⟨a, b, c, rfl, rfl, hj, q⟩ := h
  have u64 := Nat.lt_of_succ_lt (room65 hr)
  have u70 := room70 hr
  refine ds_rho [.pl (J3 a b c), .no, .no, .no, .no, .no, .no, .no, .no, .no, .no] rfl ?_
  refine ds_cons (ds_set 1 sc_ri.nd (h := d_add (h := d_int (q := d_callAD 0 (calW e1 (hr.mono (by decide))) m_dr (h := da_cons (h := d_ix (h := ?_)))))))
  walk_at "L"
  refine d_callAD 0 (calW e1 (hr.mono (by decide))) m_dr (h := ?_)
  walk_at "D"
  refine ⟨_, _, rfl, rfl, rfl, a, b, c, _, 899999, rfl, rfl, hj, by decide, by decide, fun k1 a b c p1 p2 hj => ?_⟩
  obtain ⟨wm, hwm, hwm2⟩ : ∃ wm : Nat, (0 < wm ∧ wm ≤ 5) ∧ atI [PyData.int 3, .int 3, .int 3, .int 5] k1 = some (.int (wm : Nat)) := by
    rcases (by omega : k1 = 0 ∨ k1 = 1 ∨ k1 = 2 ∨ k1 = 3) with rfl | rfl | rfl | rfl
    · exact ⟨3, by decide, atI_nat (j := 0) rfl⟩
    · exact ⟨3, by decide, atI_nat (j := 1) rfl⟩
    · exact ⟨3, by decide, atI_nat (j := 2) rfl⟩
    · exact ⟨5, by decide, atI_nat (j := 3) rfl⟩
  refine ⟨_, _, _, .inl rfl, rfl, hwm2, ?_⟩
  walk_at "D"
  refine ⟨_, _, rfl, rfl, rfl, a, b, c, _, 899998, rfl, rfl, hj.le (by decide), by omega, by omega, fun w0 a b c p1 p2 hj => ?_⟩
  walk_at "ii"
  obtain ⟨wd, hwd⟩ : ∃ wd : Nat, 1 + w0 = (wd : Nat) := ⟨(1 + w0).toNat, by omega⟩
  rw [hwd]
  have hw5 : 1 ≤ wd ∧ wd ≤ 5 := by omega
  refine ⟨rfl, ?_⟩
  try dsimp only [wipeR, List.map, List.set]
  refine ds_cons (ds_set 2 sc_ri.nd (h := d_callAL 0 (calW e2 (hr.mono (by decide))) m_cl (h := ?_)))
  walk_at "D"
  refine ⟨_, _, rfl, rfl, rfl, a, b, c, wd, 10, 899900, rfl, rfl, by omega, by omega, by decide, hj.le (by decide), fun cs a b c hc hj => ⟨rfl, ds_freeze 2 rfl ?_⟩⟩
  have hC : Cl cs := hc.cl (by omega) (by decide)
  try dsimp only [wipeR, List.map, List.set]
  refine ds_cons (ds_set 3 sc_ri.nd (h := d_callAL 0 (calW e3 (hr.mono (by decide))) m_ot (h := ?_)))
  walk_at "D"
  refine ⟨_, _, rfl, rfl, rfl, a, b, c, wd, 899800, cs, rfl, rfl, by omega, by omega, hc, hj.le (by decide), fun ds a b c hd hj => ⟨rfl, ds_freeze 3 rfl ?_⟩⟩
  have hD : Cl ds := hd.cl (by omega) (by decide)
  try dsimp only [wipeR, List.map, List.set]
  refine ds_cons (ds_for (fun i ρ => ∃ (a b c : Int) (t4 t5 t6 t7 t9 t10 : Sl), ρ = [.pl (J3 a b c), .d (.int (wd : Nat)), .d (.list (iL cs)), .d (.list (iL ds)), t4, t5, t6, t7, .no, t9, t10] ∧ JOk (899800 - 200 * i) b c) (h := di_list (d_lst (h := ?_))))
  walk_at "D"
  refine ⟨_, rfl, by show 2 ≤ sizeLine; decide, _, rfl, ⟨a, b, c, .no, .no, .no, .no, .no, .no, rfl, hj⟩, ?_, ?_⟩
  rotate_left
  -- behind the loop
  · rintro ρ2 ⟨a, b, c, t4, t5, t6, t7, t9, t10, rfl, hj⟩
    have hj : JOk 899400 b c := hj
    refine ds_cons (ds_if (dt_to false ?_ (iff_ rfl (ds_nil ?_))))
    · refine dt_wb (db_and (h := dt_cm (dc_i op_lt (h := ?_))))
      walk_at "D"
      refine ⟨_, _, rfl, rfl, ifd (fun h4 => ?_) fun _ => ⟨rfl, by first | rfl | trivial⟩⟩
      refine db_and1 (dt_not (dt_val (d_callD (calWG e11 hq (hr.mono (by decide))) m_alr (h := ?_))))
      walk_at "D"
      exact ⟨_, rfl, wd, cs, ds, rfl, by omega, ⟨Nat.le_trans hc.1 (by decide), hc.2⟩, ⟨Nat.le_trans hd.1 (by decide), hd.2⟩, _, rfl, rfl, by first | rfl | trivial⟩
    refine ds_one (ds_ret (d_and (h := d_callAD 0 (calW e12 (hr.mono (by decide))) m_far (h := ?_))))
    walk_at "D"
    refine ⟨_, _, rfl, rfl, rfl, a, b, c, 899000, rfl, rfl, hj.le (by decide), fun a b c hj => ⟨_, rfl, ift rfl (d_one (d_callAD 0 (calW e13 (hr.mono (by decide))) m_man (h := ?_)))⟩⟩
    walk_at "D"
    exact ⟨_, _, rfl, rfl, rfl, a, b, c, 898000, rfl, rfl, hj.le (by decide), fun a b c hj => ⟨_, _, rfl, rfl, rfl, q _⟩⟩
  -- one of both
  rintro i z ρ2 hz ⟨a, b, c, t4, t5, t6, t7, t9, t10, rfl, hj⟩ FF
  obtain ⟨es, rfl, hE, hi⟩ : ∃ es : List Int, z = .list (iL es) ∧ Cl es ∧ i < 2 := by
    match i, hz with
    | 0, hz => cases hz; exact ⟨cs, rfl, hC, by decide⟩
    | 1, hz => cases hz; exact ⟨ds, rfl, hD, by decide⟩
    | n + 2, hz => cases hz
  have sK := fm_srt hE
  have sKl := fm_len hE
  have fF : Fl (fD (fm es)) 3 ((505 * 300 + 1) * 2) := fl_fD (fm_sm hE)
  refine dg_name 4 sc_ri.nd (q := ?_)
  try dsimp only [wipeR, List.map, List.set]
  refine ds_cons (ds_set 5 sc_ri.nd (h := d_repr hq u70 mrep (h := ?_)))
  walk_at "D"
  refine ⟨_, rfl, (fl_cs hE).okR, rfl, ?_⟩
  try dsimp only [wipeR, List.map, List.set]
  refine ds_cons (ds_set 6 sc_ri.nd (h := d_callD (calW e4 (hr.mono (by decide))) m_fo (h := ?_)))
  walk_at "D"
  refine ⟨_, rfl, es, rfl, hE, rfl, ?_⟩
  try dsimp only [wipeR, List.map, List.set]
  refine ds_cons (ds_if (dt_wb (db_or (h := dt_cm (dc_ne u64 (h := ?_))))))
  walk_at "D"
  refine ⟨_, rfl, d_tup (da_cons (h := d_callD (calW e5 (hr.mono (by decide))) m_af (h := ?_)))⟩
  walk_at "L"
  refine ⟨[], es, rfl, srt_nil, by decide, hE, da_cons (h := d_callD (calW e6 (hr.mono (by decide))) m_ib (h := ?_))⟩
  walk_at "D"
  refine ⟨_, rfl, es, rfl, hE, ?_⟩
  walk_at "D"
  refine ⟨_, rfl, by show 2 ≤ sizeLine; decide, _, rfl, fF.okD, fF.okD, iff_ (by rw [show PyData.tuple [kL (clkd [] es), .bool (bnd es)] = fD (fm es) from rfl, fF.eqv]; rfl) ?_⟩
  refine db_or1 (dt_not (dt_val (d_isiB mi mb (h := d_ix (h := ?_)))))
  walk_at "D"
  refine ⟨_, _, .bool (fm es).2, .inr rfl, rfl, atI_nat (j := 1) rfl, _, rfl, _, rfl, iff_ rfl (ds_nil ?_)⟩
  try dsimp only [wipeR, List.map, List.set]
  refine ds_cons (ds_if (dt_wb (db_or (h := dt_cm (dc_ne u64 (h := d_callKD (g := fun {α} xs => pick [0] xs) e4k m_fo (hr.mono (by decide)) (dpA_pick [0]) (h := ?_)))))))
  walk_at "D"
  refine ⟨rfl, _, rfl, es, rfl, hE, _, rfl, ?_⟩
  walk_at "D"
  refine ⟨_, rfl, fF.okD, fF.okD, iff_ (by rw [fF.eqv]; rfl) ?_⟩
  refine db_or (h := dt_not (dt_val (d_callD (calW e7 (hr.mono (by decide))) m_ifr (h := ?_))))
  walk_at "D"
  refine ⟨_, rfl, fm es, rfl, sK, sKl, fm_isf hE, _, rfl, iff_ rfl ?_⟩
  refine db_or1 (dt_cm (dc_sne (h := d_repr hq u70 mrep (h := ?_))))
  walk_at "D"
  refine ⟨_, rfl, (fl_cs hE).okR, ?_⟩
  walk_at "D"
  refine ⟨_, _, rfl, rfl, iff_ (by simp) (ds_nil ?_)⟩
  try dsimp only [wipeR, List.map, List.set]
  refine ds_cons (ds_setLc 7 [("_law_turn", 8)] sc_ri.nd (ok := blkOk_by (N := N_ri) (sc := defScope s_ri) (by decide +kernel)) (h := di_rng1 mr (h := ?_)))
  walk_at "D"
  refine ⟨_, rfl, by decide, by decide, by rw [rng_len]; decide, rfl, fun j acc ρ => ∃ (Ss : List (List Ky)) (a b c : Int), acc = Ss.map kL ∧ Ss.length = j ∧ (∀ S ∈ Ss, Srt S ∧ S.length ≤ 100) ∧ JOk (899800 - 200 * i - 11 * j) b c ∧ ρ = [.pl (J3 a b c), .d (.int (wd : Nat)), .d (.list (iL cs)), .d (.list (iL ds)), .d (.list (iL es)), .d (.str (PyData.list (iL es)).shown), .d (fD (fm es)), t7, .no, t9, t10], ⟨[], a, b, c, rfl, rfl, by simp, hj, rfl⟩, ?_, ?_⟩
  · rintro j x acc ρ2 hx ⟨Ss, a, b, c, rfl, hl, hin, hj, rfl⟩ s H0 C cl fp
    obtain ⟨hj12, rfl⟩ := rng_at hx
    have hj12 : j < 12 := hj12
    refine dg_name 8 sc_ri.nd (q := ⟨by decide, ?_⟩)
    intro s H0 C cl fp
    refine dts_nil (ift rfl ?_)
    intro s H0 C cl fp
    refine d_callAL 0 (calW e8 (hr.mono (by decide))) m_ks (h := ?_)
    walk_at "D"
    refine ⟨_, _, rfl, rfl, rfl, a, b, c, wd, 899800 - 200 * i - 11 * (j + 1), rfl, rfl, by omega, hj.le (by omega), fun S a b c hS hSl _ hj => ?_⟩
    refine ⟨_, rfl, Ss ++ [S], a, b, c, by rw [List.map_append]; rfl, by rw [List.length_append, hl]; rfl, ?_, hj, rfl⟩
    intro d hd
    rcases List.mem_append.mp hd with h | h
    · exact hin d h
    · rw [List.mem_singleton.mp h]; exact ⟨hS, by omega⟩
  rintro acc ρ2 ⟨Ss0, a, b, c, rfl, hl0, hin0, hj, rfl⟩
  rw [rng_len] at hl0 hj
  have hj : JOk (899800 - 200 * (i + 1)) b c := hj.le (by show _ ≤ 899800 - 200 * i - 11 * 12; omega)
  have hG0 : GS Ss0 := ⟨by rw [hl0]; decide, hin0⟩
  try dsimp only [wipeR, List.map, List.set]
  refine ds_join (fun ρ => ∃ Ss, GS Ss ∧ ρ = [.pl (J3 a b c), .d (.int (wd : Nat)), .d (.list (iL cs)), .d (.list (iL ds)), .d (.list (iL es)), .d (.str (PyData.list (iL es)).shown), .d (fD (fm es)), .ol (Ss.map kL), .no, t9, t10]) (ds_if (dt_cm (dc_i op_lt (h := ?_)))) ?_
  · walk_at "D"
    refine ⟨_, _, rfl, rfl, ifd (fun h3 => ?_) fun _ => ds_nil ⟨Ss0, hG0, rfl⟩⟩
    refine ds_one (ds_set 7 sc_ri.nd (h := d_callL (calW e9 (hr.mono (by decide))) m_ev (h := ?_)))
    walk_at "D"
    exact ⟨_, rfl, wd, rfl, by omega, rfl, evM wd, ⟨fnds_ok wd (by omega) wd (by omega), fun S hS => ⟨ev_srt (by omega) S hS, (ev_sm (by omega) S hS).2⟩⟩, rfl⟩
  rintro ρ' ⟨Ss, hG, rfl⟩
  refine ds_freeze 7 rfl ?_
  try dsimp only [wipeR, List.map, List.set]
  refine ds_one (ds_for (fun j ρ => ∃ (t9 t10 : Sl), ρ = [.pl (J3 a b c), .d (.int (wd : Nat)), .d (.list (iL cs)), .d (.list (iL ds)), .d (.list (iL es)), .d (.str (PyData.list (iL es)).shown), .d (fD (fm es)), .d (.list (Ss.map kL)), .no, t9, t10]) (h := di_list ?_))
  walk_at "D"
  refine ⟨_, rfl, ⟨_, _, rfl⟩, ?_, ?_⟩
  rotate_left
  · rintro ρ2 ⟨t9, t10, rfl⟩
    exact ⟨a, b, c, _, _, _, _, t9, t10, rfl, hj⟩
  rintro j z ρ2 hz ⟨t9, t10, rfl⟩ FF
  obtain ⟨S, h1, rfl⟩ := get_map hz
  obtain ⟨sS, lS⟩ := hG.2 S (List.mem_of_getElem? h1)
  have ef := form_does sS es
  have smE : Sm (clkd S es) := sm_clkd sS lS hE
  have fE : Fl (kL (clkd S es)) 2 (505 * 300) := fl_kL smE
  refine dg_name 9 sc_ri.nd (q := ?_)
  try dsimp only [wipeR, List.map, List.set]
  refine ds_cons (ds_set 10 sc_ri.nd (h := d_callL (calW e10 (hr.mono (by decide))) m_fd (h := ?_)))
  walk_at "D"
  refine ⟨_, rfl, fm es, S, rfl, sK, sKl, sS, lS, fm_isf hE, rfl, ?_⟩
  rw [ef]
  try dsimp only [wipeR, List.map, List.set]
  refine ds_cons (ds_if (dt_wb (db_or (h := dt_cm (dc_neL u64 (h := ?_))))))
  walk_at "D"
  refine d_callD (calW e5 (hr.mono (by decide))) m_af (h := ?_)
  walk_at "D"
  refine ⟨_, rfl, S, es, rfl, sS, lS, hE, _, _, rfl, rfl, fE.okD, fE.okD, iff_ (by rw [fE.eqv]; rfl) ?_⟩
  refine db_or1 (dt_cm (dc_neL u64 (h := d_callKL (g := fun {α} xs => pick [1, 0] xs) e10k m_fd (hr.mono (by decide)) (dpA_pick [1, 0]) (h := ?_))))
  walk_at "D"
  refine ⟨rfl, _, rfl, fm es, S, rfl, sK, sKl, sS, lS, fm_isf hE, ?_⟩
  rw [ef]
  walk_at "D"
  refine ⟨_, _, rfl, rfl, fE.okD, fE.okD, iff_ (by rw [fE.eqv]; rfl) (ds_nil ?_)⟩
  try dsimp only [wipeR, List.map, List.set]
  refine ds_cons (ds_expr (h := d_append 10 (h := ?_)))
  walk_at "D"
  refine ⟨_, _, rfl, rfl, ?_, ?_⟩
  · rw [List.length_map]
    exact Nat.lt_of_le_of_lt smE.1 (by decide)
  have fM : Fl (.list ((clkd S es).map kD ++ [.none])) 2 (505 * 301) := fl_list (k := 1) (w := 504) (fun x hx => by
    rcases List.mem_append.mp hx with h | h
    · obtain ⟨k, hk, rfl⟩ := List.mem_map.mp h
      exact fl_kD (smE.2 k hk)
    · rw [List.mem_singleton.mp h]; exact fl_none.mono (by decide) (by decide)) (by rw [List.length_append, List.length_map]; have := smE.1; simp; omega)
  try dsimp only [wipeR, List.map, List.set]
  refine ds_one (ds_if (dt_wb (db_or (h := dt_cm (dc_eqL u64 (h := d_callL (calW e10 (hr.mono (by decide))) m_fd (h := ?_)))))))
  walk_at "D"
  refine ⟨_, rfl, fm es, S, rfl, sK, sKl, sS, lS, fm_isf hE, ?_⟩
  rw [ef]
  walk_at "D"
  refine ⟨_, _, rfl, rfl, fE.okD, fM.okD, iff_ (by rw [PyData.eqv, eqv_more]) ?_⟩
  refine db_or1 (dt_cm (dc_ne u64 (h := ?_)))
  walk_at "D"
  refine ⟨_, rfl, d_callD (calW e4 (hr.mono (by decide))) m_fo (h := ?_)⟩
  walk_at "D"
  refine ⟨_, rfl, es, rfl, hE, _, rfl, fF.okD, fF.okD, iff_ (by rw [fF.eqv]; rfl) (ds_nil ⟨_, _, rfl⟩)⟩
end
end K09
namespace K09
open PySem L2 Evl Lw Dw
section
variable {P : Program} {w : World} {K : PySem.W.Frag} {mg : Str → Option Value} {base : Heap}
def c_law : PCon PyData := fun xs P => ∃ ns : List Int, xs = [.list (iL ns)] ∧ ns.length ≤ 63 ∧ P (.bool true)
theorem m_law : MonP c_law := fun xs P1 P2 h ⟨ns, e, a, q⟩ => ⟨ns, e, a, h _ q⟩
theorem sc_law : FnScope ["_law_script", "_law_k"] ["_law_script"] (defScope s_law) := ⟨rfl, rfl, rfl, by decide +kernel, rfl, by decide +kernel, by decide +kernel⟩
theorem ok_law (ml : mg "len" = none) (mx : mg "max" = none) (mn : mg "min" = none) (mr : mg "range" = none) (e0 : Cal P w K mg base "_law_open" 1 ["_law_script", "_law_k"] (GC K (pcL c_op))) (e1 : CalG P w K mg base "_law_right" 6 ["_law_deck"] (GC K (pcA c_ri))) :
    ∀ f fd, Fun K "law" "law" s_law f fd → FnOkG P w K mg base 7 f fd ["_law_script"] (GC K (pcD c_law)) := by
  refine ok_DG m_law (fun xs P1 ⟨_, e, _⟩ => by rw [e]; rfl) sc_law (by decide) fun f cdv A outer s H E Γ hq hr xs P1 h => ?_
  obtain ⟨ns, rfl, hns, q⟩ := h
  refine ds_cons (ds_for (fun i ρ => ∃ t1, ρ = [.d (.list (iL ns)), t1]) (h := di_rng1 mr (h := d_max2 mx (h := ?_))))
  walk_at "D"
  refine d_min2 mn (h := ?_)
  walk_at "D"
  refine d_len ml (h := ?_)
  walk_at "D"
  refine ⟨_, .inl rfl, ?_⟩
  walk_at "D"
  refine ⟨_, _, rfl, ?_⟩
  walk_at "D"
  refine ⟨_, _, rfl, _, rfl, by omega, by omega, ⟨_, rfl⟩, ?_, fun ρ2 _ => ds_one (ds_ret ?_)⟩
  rotate_left
  · walk_at "D"
    exact ⟨_, rfl, q⟩
  rintro i z ρ2 hz ⟨t1, rfl⟩ F
  obtain ⟨hi, rfl⟩ := rng_at hz
  have hi3 : i < 100 := by omega
  refine dg_name 1 sc_law.nd (q := ds_one (ds_if (dt_not (dt_val (d_callT (calWG e1 hq (hr.mono (by decide))) m_ri (h := d_callL (calW e0 (hr.mono (by decide))) m_op (h := ?_)))))))
  walk_at "D"
  exact ⟨_, rfl, ns, i, by rw [show (0 : Int) + ((i : Nat) : Int) = (i : Nat) by omega], by omega, fun a b hj => ⟨_, rfl, a, b, 0, rfl, rfl, hj, fun _ => ⟨_, rfl, iff_ rfl (ds_nil ⟨_, rfl⟩)⟩⟩⟩
structure Facts (K : PySem.W.Frag) (mg : Str → Option Value) : Prop where
  cz : Fn K mg "check_columns_from_zero" s_cz
  bc : Fn K mg "_behind_click" s_bc
  co : Fn K mg "clicked_on" s_co
  ib : Fn K mg "_is_bound" s_ib
  ak : Fn K mg "are_keys" s_ak
  ck : Fn K mg "check_keys" s_ck
  fo : Fn K mg "form_of" s_fo
  isf : Fn K mg "is_form" s_isf
  cf : Fn K mg "_check_form" s_cf
  fd_ : Fn K mg "_formed" s_fd_
  fd : Fn K mg "formed" s_fd
  al : Fn K mg "alike" s_al
  fa : Fn K mg "first_apart" s_fa
  op : Fn K mg "_law_open" s_op
  dr : Fn K mg "_law_draw" s_dr
  cl : Fn K mg "_law_clicks" s_cl
  clk : Fn K mg "_law_click" s_clk
  af : Fn K mg "_law_after" s_af
  ks : Fn K mg "_law_keys" s_ks
  ev : Fn K mg "_law_every" s_ev
  sy : Fn K mg "_law_says" s_sy
  bo : Fn K mg "_law_bound" s_bo
  ot : Fn K mg "_law_other" s_ot
  ifr : Fn K mg "_law_is_form_right" s_ifr
  far : Fn K mg "_law_far_right" s_far
  man : Fn K mg "_law_many_right" s_man
  alr : Fn K mg "_law_alike_right" s_alr
  ri : Fn K mg "_law_right" s_ri
  mabs : mg "abs" = none
  mbool : mg "bool" = none
  menumerate : mg "enumerate" = none
  mint : mg "int" = none
  misinstance : mg "isinstance" = none
  mlen : mg "len" = none
  mlist : mg "list" = none
  mmax : mg "max" = none
  mmin : mg "min" = none
  mrange : mg "range" = none
  mrepr : mg "repr" = none
  mset : mg "set" = none
theorem all_ok (W : Facts K mg) : ∀ f fd, Fun K "law" "law" s_law f fd → FnOkG P w K mg base 7 f fd ["_law_script"] (GC K (pcD c_law)) := by
  have F_cz := ok_cz (P := P) (w := w) (K := K) (mg := mg) (base := base) 
  have C_cz : Cal P w K mg base "check_columns_from_zero" 1 ["columns"] (GC K (pcD c_cz)) := cal_fn W.cz F_cz fun _ _ _ _ _ _ us hl => match us, hl with | [_], _ => rfl
  have F_bc := ok_bc (P := P) (w := w) (K := K) (mg := mg) (base := base) 
  have C_bc : Cal P w K mg base "_behind_click" 1 ["keys", "column"] (GC K (pcL c_bc)) := cal_fn W.bc F_bc fun _ _ _ _ _ _ us hl => match us, hl with | [_, _], _ => rfl
  have F_co := ok_co (P := P) (w := w) (K := K) (mg := mg) (base := base) W.mlist C_bc
  have C_co : Cal P w K mg base "clicked_on" 2 ["sorting", "clicks"] (GC K (pcL c_co)) := cal_fn W.co F_co fun _ _ _ _ _ _ us hl => match us, hl with | [_, _], _ => rfl
  have F_ib := ok_ib (P := P) (w := w) (K := K) (mg := mg) (base := base) W.menumerate
  have C_ib : Cal P w K mg base "_is_bound" 1 ["clicks"] (GC K (pcD c_ib)) := cal_fn W.ib F_ib fun _ _ _ _ _ _ us hl => match us, hl with | [_], _ => rfl
  have F_ak := ok_ak (P := P) (w := w) (K := K) (mg := mg) (base := base) W.mlen W.mset
  have C_ak : Cal P w K mg base "are_keys" 1 ["sorting"] (GC K (pcD c_ak)) := cal_fn W.ak F_ak fun _ _ _ _ _ _ us hl => match us, hl with | [_], _ => rfl
  have F_ck := ok_ck (P := P) (w := w) (K := K) (mg := mg) (base := base) C_ak
  have C_ck : Cal P w K mg base "check_keys" 2 ["sorting"] (GC K (pcD c_ck)) := cal_fn W.ck F_ck fun _ _ _ _ _ _ us hl => match us, hl with | [_], _ => rfl
  have F_fo := ok_fo (P := P) (w := w) (K := K) (mg := mg) (base := base) C_cz C_co C_ib
  have C_fo : Cal P w K mg base "form_of" 3 ["clicks"] (GC K (pcD c_fo)) := cal_fn W.fo F_fo fun _ _ _ _ _ _ us hl => match us, hl with | [_], _ => rfl
  have F_isf := ok_isf (P := P) (w := w) (K := K) (mg := mg) (base := base) W.mlen C_ak
  have C_isf : Cal P w K mg base "is_form" 2 ["form"] (GC K (pcD c_isf)) := cal_fn W.isf F_isf fun _ _ _ _ _ _ us hl => match us, hl with | [_], _ => rfl
  have F_cf := ok_cf (P := P) (w := w) (K := K) (mg := mg) (base := base) C_isf
  have C_cf : Cal P w K mg base "_check_form" 3 ["form"] (GC K (pcD c_cf)) := cal_fn W.cf F_cf fun _ _ _ _ _ _ us hl => match us, hl with | [_], _ => rfl
  have F_fd_ := ok_fd_ (P := P) (w := w) (K := K) (mg := mg) (base := base) W.mlist
  have C_fd_ : Cal P w K mg base "_formed" 1 ["form", "sorting"] (GC K (pcL c_fd)) := cal_fn W.fd_ F_fd_ fun _ _ _ _ _ _ us hl => match us, hl with | [_, _], _ => rfl
  have F_fd := ok_fd (P := P) (w := w) (K := K) (mg := mg) (base := base) C_cf C_ck C_fd_
  have C_fd : Cal P w K mg base "formed" 4 ["form", "sorting"] (GC K (pcL c_fd)) := cal_fn W.fd F_fd fun _ _ _ _ _ _ us hl => match us, hl with | [_, _], _ => rfl
  have F_al := ok_al (P := P) (w := w) (K := K) (mg := mg) (base := base) C_fo
  have C_al : Cal P w K mg base "alike" 4 ["one", "other"] (GC K (pcD c_al)) := cal_fn W.al F_al fun _ _ _ _ _ _ us hl => match us, hl with | [_, _], _ => rfl
  have F_fa := ok_fa (P := P) (w := w) (K := K) (mg := mg) (base := base) C_fo
  have C_fa : Cal P w K mg base "first_apart" 4 ["one", "other"] (GC K (pcD c_fa)) := cal_fn W.fa F_fa fun _ _ _ _ _ _ us hl => match us, hl with | [_, _], _ => rfl
  have F_op := ok_op (P := P) (w := w) (K := K) (mg := mg) (base := base) W.mlen W.mmax W.mint W.mabs
  have C_op : Cal P w K mg base "_law_open" 1 ["_law_script", "_law_k"] (GC K (pcL c_op)) := cal_fn W.op F_op fun _ _ _ _ _ _ us hl => match us, hl with | [_, _], _ => rfl
  have F_dr := ok_dr (P := P) (w := w) (K := K) (mg := mg) (base := base) W.mint
  have C_dr : Cal P w K mg base "_law_draw" 1 ["_law_deck", "_law_many"] (GC K (pcA c_dr)) := cal_fn W.dr F_dr fun _ _ _ _ _ _ us hl => match us, hl with | [_, _], _ => rfl
  have F_cl := ok_cl (P := P) (w := w) (K := K) (mg := mg) (base := base) W.mrange C_dr
  have C_cl : Cal P w K mg base "_law_clicks" 2 ["_law_deck", "_law_width", "_law_most"] (GC K (pcAL c_cl)) := cal_fn W.cl F_cl fun _ _ _ _ _ _ us hl => match us, hl with | [_, _, _], _ => rfl
  have F_clk := ok_clk (P := P) (w := w) (K := K) (mg := mg) (base := base) 
  have C_clk : Cal P w K mg base "_law_click" 1 ["_law_keys_here", "_law_column"] (GC K (pcL c_clk)) := cal_fn W.clk F_clk fun _ _ _ _ _ _ us hl => match us, hl with | [_, _], _ => rfl
  have F_af := ok_af (P := P) (w := w) (K := K) (mg := mg) (base := base) C_clk
  have C_af : Cal P w K mg base "_law_after" 2 ["_law_keys_here", "_law_clicks_here"] (GC K (pcD c_af)) := cal_fn W.af F_af fun _ _ _ _ _ _ us hl => match us, hl with | [_, _], _ => rfl
  have F_ks := ok_ks (P := P) (w := w) (K := K) (mg := mg) (base := base) W.mlen W.mlist W.mrange C_dr
  have C_ks : Cal P w K mg base "_law_keys" 2 ["_law_deck", "_law_width"] (GC K (pcAL c_ks)) := cal_fn W.ks F_ks fun _ _ _ _ _ _ us hl => match us, hl with | [_, _], _ => rfl
  have F_ev := ok_ev (P := P) (w := w) (K := K) (mg := mg) (base := base) W.mlist W.mrange
  have C_ev : Cal P w K mg base "_law_every" 1 ["_law_width"] (GC K (pcL c_ev)) := cal_fn W.ev F_ev fun _ _ _ _ _ _ us hl => match us, hl with | [_], _ => rfl
  have F_sy := ok_sy (P := P) (w := w) (K := K) (mg := mg) (base := base) W.misinstance W.mbool
  have C_sy : Cal P w K mg base "_law_says" 1 ["_law_found", "_law_due"] (GC K (pcD c_sy)) := cal_fn W.sy F_sy fun _ _ _ _ _ _ us hl => match us, hl with | [_, _], _ => rfl
  have F_bo := ok_bo (P := P) (w := w) (K := K) (mg := mg) (base := base) W.mlen W.mrange
  have C_bo : Cal P w K mg base "_law_bound" 1 ["_law_clicks_here"] (GC K (pcD c_ib)) := cal_fn W.bo F_bo fun _ _ _ _ _ _ us hl => match us, hl with | [_], _ => rfl
  have F_ot := ok_ot (P := P) (w := w) (K := K) (mg := mg) (base := base) W.mlen C_dr C_cl
  have C_ot : Cal P w K mg base "_law_other" 3 ["_law_deck", "_law_width", "_law_clicks_here"] (GC K (pcAL c_ot)) := cal_fn W.ot F_ot fun _ _ _ _ _ _ us hl => match us, hl with | [_, _, _], _ => rfl
  have isfK0 : CalK P w K mg base "is_form" 2 ["form"] ["form"] (fun xs => pick [0] xs) (GC K (pcD c_isf)) := calK_fn (fun {α} xs => pick [0] xs) W.isf F_isf (vals_pick _) fun _ _ _ _ _ _ ws hl => match ws, hl with | [_], _ => rfl
  have F_ifr := ok_ifr (P := P) (w := w) (K := K) (mg := mg) (base := base) C_isf isfK0 C_sy
  have C_ifr : Cal P w K mg base "_law_is_form_right" 3 ["_law_form"] (GC K (pcD c_ifr)) := cal_fn W.ifr F_ifr fun _ _ _ _ _ _ us hl => match us, hl with | [_], _ => rfl
  have F_far := ok_far (P := P) (w := w) (K := K) (mg := mg) (base := base) C_dr C_cl C_fo C_ot C_fa C_al C_ks C_fd C_af
  have C_far : Cal P w K mg base "_law_far_right" 5 ["_law_deck"] (GC K (pcA c_far)) := cal_fn W.far F_far fun _ _ _ _ _ _ us hl => match us, hl with | [_], _ => rfl
  have F_man := ok_man (P := P) (w := w) (K := K) (mg := mg) (base := base) W.mlen W.mrange W.mint C_dr C_cl C_fo C_bo C_isf C_fd C_af
  have C_man : Cal P w K mg base "_law_many_right" 5 ["_law_deck"] (GC K (pcA c_man)) := cal_fn W.man F_man fun _ _ _ _ _ _ us hl => match us, hl with | [_], _ => rfl
  have alK1_0 : CalK P w K mg base "alike" 4 ["one", "other"] ["other", "one"] (fun xs => pick [1, 0] xs) (GC K (pcD c_al)) := calK_fn (fun {α} xs => pick [1, 0] xs) W.al F_al (vals_pick _) fun _ _ _ _ _ _ ws hl => match ws, hl with | [_, _], _ => rfl
  have faK1_0 : CalK P w K mg base "first_apart" 4 ["one", "other"] ["other", "one"] (fun xs => pick [1, 0] xs) (GC K (pcD c_fa)) := calK_fn (fun {α} xs => pick [1, 0] xs) W.fa F_fa (vals_pick _) fun _ _ _ _ _ _ ws hl => match ws, hl with | [_, _], _ => rfl
  have F_alr := ok_alr (P := P) (w := w) (K := K) (mg := mg) (base := base) W.mrepr W.misinstance C_ev C_af C_sy C_al alK1_0 C_fa faK1_0
  have C_alr : CalG P w K mg base "_law_alike_right" 5 ["_law_width", "_law_one", "_law_other_here"] (GC K (pcD c_alr)) := calG_fn W.alr F_alr fun _ _ _ _ _ _ us hl => match us, hl with | [_, _, _], _ => rfl
  have foK0 : CalK P w K mg base "form_of" 3 ["clicks"] ["clicks"] (fun xs => pick [0] xs) (GC K (pcD c_fo)) := calK_fn (fun {α} xs => pick [0] xs) W.fo F_fo (vals_pick _) fun _ _ _ _ _ _ ws hl => match ws, hl with | [_], _ => rfl
  have fdK1_0 : CalK P w K mg base "formed" 4 ["form", "sorting"] ["sorting", "form"] (fun xs => pick [1, 0] xs) (GC K (pcL c_fd)) := calK_fn (fun {α} xs => pick [1, 0] xs) W.fd F_fd (vals_pick _) fun _ _ _ _ _ _ ws hl => match ws, hl with | [_, _], _ => rfl
  have F_ri := ok_ri (P := P) (w := w) (K := K) (mg := mg) (base := base) W.mrepr W.mrange W.misinstance W.mbool C_dr C_cl C_ot C_fo foK0 C_af C_bo C_ifr C_ks C_ev C_fd fdK1_0 C_alr C_far C_man
  have C_ri : CalG P w K mg base "_law_right" 6 ["_law_deck"] (GC K (pcA c_ri)) := calG_fn W.ri F_ri fun _ _ _ _ _ _ us hl => match us, hl with | [_], _ => rfl
  exact ok_law W.mlen W.mmax W.mmin W.mrange C_op C_ri
end
theorem walk {l : PySem.W.OpenLaw} {q : Program} {loose : List Str} {XP : (Str → Option Value) → Heap → Prop} {YP : World → Heap → Prop} {d : DefRec} {K : Params → PySem.W.Frag} (hn : l.most = some 63) (hdf : d.params.defaults = [])
    (hY : ∀ (w : World) (h : Heap), YP w h → (K w.params).In h)
    (F : ∀ (w : World) (mg : Str → Option Value) (fa : Addr) (h : Heap), (K w.params).In h → h.Ns mainGlobals mg → mg d.name = some (.ref fa) → ∃ fd, Fun (K w.params) "law" "law" s_law fa fd ∧ Facts (K w.params) mg) :
    PySem.W.WalkO q loose XP YP l.row.toRowW d [] (fun f vs => PySem.call f vs) :=
  walkG (n := 63) (k := 7) (x := "_law_script") (sp := fun w => GC (K w.params) (pcD c_law)) hn (by decide) hdf ⟨rfl, by decide, by decide⟩ hY
    (fun w mg fa h KX G hmg => by
      obtain ⟨fd, Fl, W⟩ := F w mg fa h KX G hmg
      refine ⟨fd, fun s v => ?_, fun base _ _ => all_ok W _ _ Fl⟩
      obtain ⟨oc, od, kV, doc, pm, an, cdv, ct, osl, rfl, lk, hcd⟩ := Fl.ex
      exact .of_eq rfl)
    (fun w H a ns hl _ _ hS => ⟨H, dat [.list (iL ns)], st_dat (Ex.refl H) (.cons (.lst hS (dpA_ints ns)) .nil), [.list (iL ns)], rfl, ns, rfl, hl, fun v B' H' _ rr => rr_bool rr⟩)
end K09
namespace K09
open PySem L2 Evl Lw
theorem all_mk {K : PySem.W.Frag} {mg : Str → Option Value} {h : Heap} {fa  : Addr} (X : K.In h) (G : h.Ns mainGlobals mg) (hfa : mg "law" = some (.ref fa)) (xlaw : FnK K "law" s_law)
    (x_cz : FnK K "check_columns_from_zero" s_cz)
    (x_bc : FnK K "_behind_click" s_bc)
    (x_co : FnK K "clicked_on" s_co)
    (x_ib : FnK K "_is_bound" s_ib)
    (x_ak : FnK K "are_keys" s_ak)
    (x_ck : FnK K "check_keys" s_ck)
    (x_fo : FnK K "form_of" s_fo)
    (x_isf : FnK K "is_form" s_isf)
    (x_cf : FnK K "_check_form" s_cf)
    (x_fd_ : FnK K "_formed" s_fd_)
    (x_fd : FnK K "formed" s_fd)
    (x_al : FnK K "alike" s_al)
    (x_fa : FnK K "first_apart" s_fa)
    (x_op : FnK K "_law_open" s_op)
    (x_dr : FnK K "_law_draw" s_dr)
    (x_cl : FnK K "_law_clicks" s_cl)
    (x_clk : FnK K "_law_click" s_clk)
    (x_af : FnK K "_law_after" s_af)
    (x_ks : FnK K "_law_keys" s_ks)
    (x_ev : FnK K "_law_every" s_ev)
    (x_sy : FnK K "_law_says" s_sy)
    (x_bo : FnK K "_law_bound" s_bo)
    (x_ot : FnK K "_law_other" s_ot)
    (x_ifr : FnK K "_law_is_form_right" s_ifr)
    (x_far : FnK K "_law_far_right" s_far)
    (x_man : FnK K "_law_many_right" s_man)
    (x_alr : FnK K "_law_alike_right" s_alr)
    (x_ri : FnK K "_law_right" s_ri)
    (n_mabs : PySem.W.nsIn K mainGlobals "abs" = some none)
    (n_mbool : PySem.W.nsIn K mainGlobals "bool" = some none)
    (n_menumerate : PySem.W.nsIn K mainGlobals "enumerate" = some none)
    (n_mint : PySem.W.nsIn K mainGlobals "int" = some none)
    (n_misinstance : PySem.W.nsIn K mainGlobals "isinstance" = some none)
    (n_mlen : PySem.W.nsIn K mainGlobals "len" = some none)
    (n_mlist : PySem.W.nsIn K mainGlobals "list" = some none)
    (n_mmax : PySem.W.nsIn K mainGlobals "max" = some none)
    (n_mmin : PySem.W.nsIn K mainGlobals "min" = some none)
    (n_mrange : PySem.W.nsIn K mainGlobals "range" = some none)
    (n_mrepr : PySem.W.nsIn K mainGlobals "repr" = some none)
    (n_mset : PySem.W.nsIn K mainGlobals "set" = some none)
    : ∃ fd, Fun K "law" "law" s_law fa fd ∧ Facts K mg  := by
  obtain ⟨fl, fdl, Fl, hl⟩ := xlaw.fn X G
  have e := hfa.symm.trans hl
  cases e
  exact ⟨fdl, Fl,
    { cz := x_cz.fn X G, bc := x_bc.fn X G, co := x_co.fn X G, ib := x_ib.fn X G, ak := x_ak.fn X G, ck := x_ck.fn X G, fo := x_fo.fn X G, isf := x_isf.fn X G, cf := x_cf.fn X G, fd_ := x_fd_.fn X G, fd := x_fd.fn X G, al := x_al.fn X G, fa := x_fa.fn X G, op := x_op.fn X G, dr := x_dr.fn X G, cl := x_cl.fn X G, clk := x_clk.fn X G, af := x_af.fn X G, ks := x_ks.fn X G, ev := x_ev.fn X G, sy := x_sy.fn X G, bo := x_bo.fn X G, ot := x_ot.fn X G, ifr := x_ifr.fn X G, far := x_far.fn X G, man := x_man.fn X G, alr := x_alr.fn X G, ri := x_ri.fn X G, mabs := PySem.W.mg_none_of X G n_mabs, mbool := PySem.W.mg_none_of X G n_mbool, menumerate := PySem.W.mg_none_of X G n_menumerate, mint := PySem.W.mg_none_of X G n_mint, misinstance := PySem.W.mg_none_of X G n_misinstance, mlen := PySem.W.mg_none_of X G n_mlen, mlist := PySem.W.mg_none_of X G n_mlist, mmax := PySem.W.mg_none_of X G n_mmax, mmin := PySem.W.mg_none_of X G n_mmin, mrange := PySem.W.mg_none_of X G n_mrange, mrepr := PySem.W.mg_none_of X G n_mrepr, mset := PySem.W.mg_none_of X G n_mset }⟩
end K09
open PySem PySem.W PyProof.Rows in
set_option maxRecDepth 100000 in
set_option maxHeartbeats 0 in
theorem PySem.Challenge.cw_listwindow_k09_forms_of_clicks_done_holds : PySem.Challenge.rw_listwindow_k09_forms_of_clicks_done.Holds := by
  w_on; o_law; k_head; (case hw => w_witness2)
  k_fill
  refine K09.walk (l := PySem.Challenge.rw_listwindow_k09_forms_of_clicks_done) rfl rfl (fun w h Y => PySem.W.kIn_of Y) ?F
  case F =>
    intro w mg fa h KX G hmg
    refine' K09.all_mk KX G hmg ?xlaw ?x_cz ?x_bc ?x_co ?x_ib ?x_ak ?x_ck ?x_fo ?x_isf ?x_cf ?x_fd_ ?x_fd ?x_al ?x_fa ?x_op ?x_dr ?x_cl ?x_clk ?x_af ?x_ks ?x_ev ?x_sy ?x_bo ?x_ot ?x_ifr ?x_far ?x_man ?x_alr ?x_ri ?n_mabs ?n_mbool ?n_menumerate ?n_mint ?n_misinstance ?n_mlen ?n_mlist ?n_mmax ?n_mmin ?n_mrange ?n_mrepr ?n_mset
    (case xlaw => (refine' Lw.fnK_mk ?a ?l ?c ?k; (case a => k_is); (case l => k_is); (case c => k_is); (case k => k_is)))
    (case x_cz => (refine' Lw.fnK_mk ?a ?l ?c ?k; (case a => k_is); (case l => k_is); (case c => k_is); (case k => k_is)))
    (case x_bc => (refine' Lw.fnK_mk ?a ?l ?c ?k; (case a => k_is); (case l => k_is); (case c => k_is); (case k => k_is)))
    (case x_co => (refine' Lw.fnK_mk ?a ?l ?c ?k; (case a => k_is); (case l => k_is); (case c => k_is); (case k => k_is)))
    (case x_ib => (refine' Lw.fnK_mk ?a ?l ?c ?k; (case a => k_is); (case l => k_is); (case c => k_is); (case k => k_is)))
    (case x_ak => (refine' Lw.fnK_mk ?a ?l ?c ?k; (case a => k_is); (case l => k_is); (case c => k_is); (case k => k_is)))
    (case x_ck => (refine' Lw.fnK_mk ?a ?l ?c ?k; (case a => k_is); (case l => k_is); (case c => k_is); (case k => k_is)))
    (case x_fo => (refine' Lw.fnK_mk ?a ?l ?c ?k; (case a => k_is); (case l => k_is); (case c => k_is); (case k => k_is)))
    (case x_isf => (refine' Lw.fnK_mk ?a ?l ?c ?k; (case a => k_is); (case l => k_is); (case c => k_is); (case k => k_is)))
    (case x_cf => (refine' Lw.fnK_mk ?a ?l ?c ?k; (case a => k_is); (case l => k_is); (case c => k_is); (case k => k_is)))
    (case x_fd_ => (refine' Lw.fnK_mk ?a ?l ?c ?k; (case a => k_is); (case l => k_is); (case c => k_is); (case k => k_is)))
    (case x_fd => (refine' Lw.fnK_mk ?a ?l ?c ?k; (case a => k_is); (case l => k_is); (case c => k_is); (case k => k_is)))
    (case x_al => (refine' Lw.fnK_mk ?a ?l ?c ?k; (case a => k_is); (case l => k_is); (case c => k_is); (case k => k_is)))
    (case x_fa => (refine' Lw.fnK_mk ?a ?l ?c ?k; (case a => k_is); (case l => k_is); (case c => k_is); (case k => k_is)))
    (case x_op => (refine' Lw.fnK_mk ?a ?l ?c ?k; (case a => k_is); (case l => k_is); (case c => k_is); (case k => k_is)))
    (case x_dr => (refine' Lw.fnK_mk ?a ?l ?c ?k; (case a => k_is); (case l => k_is); (case c => k_is); (case k => k_is)))
    (case x_cl => (refine' Lw.fnK_mk ?a ?l ?c ?k; (case a => k_is); (case l => k_is); (case c => k_is); (case k => k_is)))
    (case x_clk => (refine' Lw.fnK_mk ?a ?l ?c ?k; (case a => k_is); (case l => k_is); (case c => k_is); (case k => k_is)))
    (case x_af => (refine' Lw.fnK_mk ?a ?l ?c ?k; (case a => k_is); (case l => k_is); (case c => k_is); (case k => k_is)))
    (case x_ks => (refine' Lw.fnK_mk ?a ?l ?c ?k; (case a => k_is); (case l => k_is); (case c => k_is); (case k => k_is)))
    (case x_ev => (refine' Lw.fnK_mk ?a ?l ?c ?k; (case a => k_is); (case l => k_is); (case c => k_is); (case k => k_is)))
    (case x_sy => (refine' Lw.fnK_mk ?a ?l ?c ?k; (case a => k_is); (case l => k_is); (case c => k_is); (case k => k_is)))
    (case x_bo => (refine' Lw.fnK_mk ?a ?l ?c ?k; (case a => k_is); (case l => k_is); (case c => k_is); (case k => k_is)))
    (case x_ot => (refine' Lw.fnK_mk ?a ?l ?c ?k; (case a => k_is); (case l => k_is); (case c => k_is); (case k => k_is)))
    (case x_ifr => (refine' Lw.fnK_mk ?a ?l ?c ?k; (case a => k_is); (case l => k_is); (case c => k_is); (case k => k_is)))
    (case x_far => (refine' Lw.fnK_mk ?a ?l ?c ?k; (case a => k_is); (case l => k_is); (case c => k_is); (case k => k_is)))
    (case x_man => (refine' Lw.fnK_mk ?a ?l ?c ?k; (case a => k_is); (case l => k_is); (case c => k_is); (case k => k_is)))
    (case x_alr => (refine' Lw.fnK_mk ?a ?l ?c ?k; (case a => k_is); (case l => k_is); (case c => k_is); (case k => k_is)))
    (case x_ri => (refine' Lw.fnK_mk ?a ?l ?c ?k; (case a => k_is); (case l => k_is); (case c => k_is); (case k => k_is)))
    (case n_mabs => k_is)
    (case n_mbool => k_is)
    (case n_menumerate => k_is)
    (case n_mint => k_is)
    (case n_misinstance => k_is)
    (case n_mlen => k_is)
    (case n_mlist => k_is)
    (case n_mmax => k_is)
    (case n_mmin => k_is)
    (case n_mrange => k_is)
    (case n_mrepr => k_is)
    (case n_mset => k_is)
