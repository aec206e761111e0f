import PyProof.Rows.All
import Wide.All
import OpenK.AllK
import Wide.FinOn
import HandS.ForMost
import HandS.Wide
import HandS.IsInst
import PySem.Challenge.RW_windowada_k10_kinds_of_operators
set_option Elab.async false
set_option maxRecDepth 100000
set_option maxHeartbeats 4000000
set_option linter.all false
namespace My
open PySem L2
/-! ### helpers -/
def IsTupOf (o : Obj) (xs : List V) : Prop := o.cls = .type "tuple" ∧ ∃ (its : Array Value) (n : Nat), o.data = .seq its n ∧ its.size ≤ sizeLine ∧ Vals xs its.toList
theorem sqT_of {K : PySem.W.Frag} {H : Hp} {a : Addr} {o : Obj} {xs : List V} (h : K.lookup a = some o) (q : IsTupOf o xs) : SqT K H a xs := by
  obtain ⟨c, its, n, d, z, r⟩ := q
  exact .inr ⟨o, its, n, h, c, d, z, r⟩
theorem upd_self {H : Hp} {a : Addr} {o : HO} (h : H a = some o) : upd H a o = H := by
  funext b
  unfold upd
  split
  · rename_i e; rw [e, h]
  · rfl
theorem exm_of {K : PySem.W.Frag} {S C : Addr} (h1 : PySem.W.subIn K (.ref C) (.type "BaseException") = some true) (h2 : PySem.W.isClsIn K C = true) (h3 : PySem.W.typeIn K (.ref C) = some (.type "type")) {b : Bool} (h4 : PySem.W.subIn K (.ref S) (.ref C) = some b) :
    PySem.W.exmOne K (.ref S) (.ref C) = some b := by
  have e1 : (PySem.W.subIn K (.ref C) (.type "BaseException") == some true) = true := by rw [h1] <;> rfl
  have e2 : ((PySem.W.clsIn K C).isSome && PySem.W.typeIn K (.ref C) == some (.type "type")) = true := by
    have h2' : (PySem.W.clsIn K C).isSome = true := h2
    rw [h2', h3] <;> rfl
  show (if (PySem.W.subIn K (.ref C) (.type "BaseException") == some true) = true then (if ((PySem.W.clsIn K C).isSome && PySem.W.typeIn K (.ref C) == some (.type "type")) = true then PySem.W.subIn K (.ref S) (.ref C) else none) else none) = some b
  rw [if_pos e1, if_pos e2]
  exact h4
theorem sN {H H1 : Hp} {p : Addr} {o : HO} (s : Same H H1) (n : H1 p = none) : Same H (upd H1 p o) := fun b u e => by
  rw [upd_ne (ne_of_none (s b u e) n)]
  exact s b u e
theorem seqT {K : PySem.W.Frag} {H H' : Hp} {a : Addr} {xs : List V} (e : Same H H') (h : SqT K H a xs) : SqT K H' a xs := by
  rcases h with (h | ⟨o, h⟩) | h
  · exact .inl (.inl (e _ _ h))
  · exact .inl (.inr ⟨o, e _ _ h⟩)
  · exact .inr h
theorem ite3 {b : Bool} {A B : Prop} (h1 : b = true → A) (h2 : b = false → B) : if b = true then A else B := by
  cases b with
  | true => exact iteT (h1 rfl)
  | false => exact iteF (h2 rfl)
section
variable {X : Cx}
def rInS (K : PySem.W.Frag) : R2 := fun x y H Q => ∃ p xs, y = .ref p ∧ (SqL K H p xs ∨ SqT K H p xs) ∧ flatV x = true ∧ xs.all flatV = true ∧ Q (.bl (inV x xs)) H
def rNotInS (K : PySem.W.Frag) : R2 := fun x y H Q => ∃ p xs, y = .ref p ∧ (SqL K H p xs ∨ SqT K H p xs) ∧ flatV x = true ∧ xs.all flatV = true ∧ Q (.bl (!inV x xs)) H
theorem op_inS : OpR X (compareOp .In) (rInS X.K) := fun pins s σ H x y v u Q I rx ry h => op_in_seq pins s σ H x y v u Q I rx ry h
theorem op_notInS : OpR X (compareOp .NotIn) (rNotInS X.K) := fun pins s σ H x y v u Q I rx ry h => op_notIn_seq pins s σ H x y v u Q I rx ry h
end
theorem at0 {v : V} {r : List V} : atI (v :: r) 0 = some v := atI_nat (j := 0) rfl
theorem sUpd {H H1 : Hp} {p : Addr} {o : HO} (s : Same H H1) (n : H p = none) : Same H (upd H1 p o) := fun b u e => by
  rw [upd_ne (ne_of_none e n)]
  exact s b u e

def top (i : Nat) : Stmt := PySem.Challenge.pw_windowada_k10_kinds_of_operators.main.body.getD i (.Pass ⟨0, 0, 0, 0⟩)
abbrev s_unary_kind : Stmt := top 6
abbrev s_binary_kind : Stmt := top 7
abbrev s_law_pick : Stmt := top 9
abbrev s_law_unary : Stmt := top 10
abbrev s_law_binary : Stmt := top 11
abbrev s_law_right : Stmt := top 12
abbrev s_law_question : Stmt := top 13
abbrev s_law : Stmt := top 14
theorem sc_unary_kind : FnScope ["operator", "operand", "needed"] ["operator", "operand"] (defScope s_unary_kind) := ⟨rfl, rfl, rfl, by decide +kernel, rfl, by decide +kernel, by decide +kernel⟩
theorem sc_binary_kind : FnScope ["operator", "left", "right", "needed"] ["operator", "left", "right"] (defScope s_binary_kind) := ⟨rfl, rfl, rfl, by decide +kernel, rfl, by decide +kernel, by decide +kernel⟩
theorem sc_law_pick : FnScope ["state", "limit", "digit", "cell", "mixed"] ["state", "limit"] (defScope s_law_pick) := ⟨rfl, rfl, rfl, by decide +kernel, rfl, by decide +kernel, by decide +kernel⟩
theorem sc_law_unary : FnScope ["operator", "operand"] ["operator", "operand"] (defScope s_law_unary) := ⟨rfl, rfl, rfl, by decide +kernel, rfl, by decide +kernel, by decide +kernel⟩
theorem sc_law_binary : FnScope ["operator", "left", "right", "need"] ["operator", "left", "right"] (defScope s_law_binary) := ⟨rfl, rfl, rfl, by decide +kernel, rfl, by decide +kernel, by decide +kernel⟩
theorem sc_law_right : FnScope ["actual", "due"] ["actual", "due"] (defScope s_law_right) := ⟨rfl, rfl, rfl, by decide +kernel, rfl, by decide +kernel, by decide +kernel⟩
theorem sc_law_question : FnScope ["k", "kinds", "operator", "operand", "operators", "at", "left", "right"] ["k"] (defScope s_law_question) := ⟨rfl, rfl, rfl, by decide +kernel, rfl, by decide +kernel, by decide +kernel⟩
theorem sc_law : FnScope ["script", "state", "turn", "start", "k"] ["script"] (defScope s_law) := ⟨rfl, rfl, rfl, by decide +kernel, rfl, by decide +kernel, by decide +kernel⟩
structure Ad where
  f_unary_kind : Addr
  d_unary_kind : FuncData
  f_binary_kind : Addr
  d_binary_kind : FuncData
  f_law_pick : Addr
  d_law_pick : FuncData
  f_law_unary : Addr
  d_law_unary : FuncData
  f_law_binary : Addr
  d_law_binary : FuncData
  f_law_right : Addr
  d_law_right : FuncData
  f_law_question : Addr
  d_law_question : FuncData
  f_law : Addr
  d_law : FuncData
  c_ARITHMETIC : Addr
  t_BOOLEAN : Tok
  c_EQUALITY : Addr
  t_INTEGER : Tok
  c_ORDER : Addr
structure Txt (K : PySem.W.Frag) (mg : Str → Option Value) (a : Ad) : Prop where
  g_unary_kind : mg "unary_kind" = some (.ref a.f_unary_kind)
  F_unary_kind : Fun K "unary_kind" "unary_kind" s_unary_kind a.f_unary_kind a.d_unary_kind
  k_unary_kind : PySem.W.keepIn K (.ref a.f_unary_kind) = true
  bd_unary_kind : Binds K a.d_unary_kind ["operator", "operand"] []
  g_binary_kind : mg "binary_kind" = some (.ref a.f_binary_kind)
  F_binary_kind : Fun K "binary_kind" "binary_kind" s_binary_kind a.f_binary_kind a.d_binary_kind
  k_binary_kind : PySem.W.keepIn K (.ref a.f_binary_kind) = true
  bd_binary_kind : Binds K a.d_binary_kind ["operator", "left", "right"] []
  g__law_pick : mg "_law_pick" = some (.ref a.f_law_pick)
  F__law_pick : Fun K "_law_pick" "_law_pick" s_law_pick a.f_law_pick a.d_law_pick
  k__law_pick : PySem.W.keepIn K (.ref a.f_law_pick) = true
  bd__law_pick : Binds K a.d_law_pick ["state", "limit"] []
  g__law_unary : mg "_law_unary" = some (.ref a.f_law_unary)
  F__law_unary : Fun K "_law_unary" "_law_unary" s_law_unary a.f_law_unary a.d_law_unary
  k__law_unary : PySem.W.keepIn K (.ref a.f_law_unary) = true
  bd__law_unary : Binds K a.d_law_unary ["operator", "operand"] []
  g__law_binary : mg "_law_binary" = some (.ref a.f_law_binary)
  F__law_binary : Fun K "_law_binary" "_law_binary" s_law_binary a.f_law_binary a.d_law_binary
  k__law_binary : PySem.W.keepIn K (.ref a.f_law_binary) = true
  bd__law_binary : Binds K a.d_law_binary ["operator", "left", "right"] []
  g__law_right : mg "_law_right" = some (.ref a.f_law_right)
  F__law_right : Fun K "_law_right" "_law_right" s_law_right a.f_law_right a.d_law_right
  k__law_right : PySem.W.keepIn K (.ref a.f_law_right) = true
  bd__law_right : Binds K a.d_law_right ["actual", "due"] []
  g__law_question : mg "_law_question" = some (.ref a.f_law_question)
  F__law_question : Fun K "_law_question" "_law_question" s_law_question a.f_law_question a.d_law_question
  k__law_question : PySem.W.keepIn K (.ref a.f_law_question) = true
  bd__law_question : Binds K a.d_law_question ["k"] []
  g_law : mg "law" = some (.ref a.f_law)
  F_law : Fun K "law" "law" s_law a.f_law a.d_law
  k_law : PySem.W.keepIn K (.ref a.f_law) = true
  bd_law : Binds K a.d_law ["script"] []
  g_ARITHMETIC : mg "ARITHMETIC" = some (.ref a.c_ARITHMETIC)
  q_ARITHMETIC : ∀ H : Hp, SqT K H a.c_ARITHMETIC [.str "+", .str "-", .str "*", .str "/", .str "mod", .str "rem"]
  g_BOOLEAN : mg "BOOLEAN" = some (.str "boolean" a.t_BOOLEAN)
  g_EQUALITY : mg "EQUALITY" = some (.ref a.c_EQUALITY)
  q_EQUALITY : ∀ H : Hp, SqT K H a.c_EQUALITY [.str "=", .str "/="]
  g_INTEGER : mg "INTEGER" = some (.str "integer" a.t_INTEGER)
  g_ORDER : mg "ORDER" = some (.ref a.c_ORDER)
  q_ORDER : ∀ H : Hp, SqT K H a.c_ORDER [.str "<", .str "<=", .str ">", .str ">="]
  b_int : mg "int" = none
  b_isinstance : mg "isinstance" = none
  b_len : mg "len" = none
  b_range : mg "range" = none
  b_str : mg "str" = none
/-! ### the mirrors -/
def ukN (op : Str) : V := cond (decide (V.str op = V.str "not")) (V.str "boolean") (V.str "integer")
def uk (op k : Str) : V := cond (decide (V.str k = ukN op)) (ukN op) .non
def bkN (op : Str) : V := cond (inV (.str op) [.str "<", .str "<=", .str ">", .str ">="]) (V.str "integer") (V.str "boolean")
def bk (op l r : Str) : V :=
  cond (!decide (V.str l = V.str r)) .non <|
  cond (inV (.str op) [.str "=", .str "/="]) (.str "boolean") <|
  cond (inV (.str op) [.str "+", .str "-", .str "*", .str "/", .str "mod", .str "rem"]) (cond (decide (V.str l = V.str "integer")) (.str "integer") .non) <|
  cond (decide (V.str l = bkN op)) (.str "boolean") .non
def lu (op k : Str) : List V :=
  cond (decide (V.str op = V.str "not")) (cond (decide (V.str k = V.str "boolean")) [.str "boolean"] []) (cond (decide (V.str k = V.str "integer")) [.str "integer"] [])
def lbN (op : Str) : V := cond (inV (.str op) [.str "and", .str "or", .str "xor", .str "and then", .str "or else"]) (V.str "boolean") (V.str "integer")
def lb (op l r : Str) : List V :=
  cond (inV (.str op) [.str "=", .str "/="]) (cond (decide (V.str l = V.str r)) [.str "boolean"] []) <|
  cond (!decide (V.str l = lbN op)) [] <|
  cond (!decide (V.str r = lbN op)) [] <|
  cond (inV (.str op) [.str "+", .str "-", .str "*", .str "/", .str "mod", .str "rem"]) [.str "integer"] [.str "boolean"]
def right (x : V) (due : List V) : Bool := match due with
  | [] => decide (x = .non)
  | d :: _ => match x with
    | .str z => decide (V.str z = d)
    | _ => false
def strOrNon (x : V) : Prop := x = .non ∨ ∃ z, x = .str z
/-! ### the promises -/
def spUk : Sp := fun vs H Q _ => ∃ op k : Str, vs = [.str op, .str k] ∧ Q (uk op k) H
def spBk : Sp := fun vs H Q _ => ∃ op l r : Str, vs = [.str op, .str l, .str r] ∧ Q (bk op l r) H
def spLu : Sp := fun vs H Q _ => ∃ op k : Str, vs = [.str op, .str k] ∧ ∀ (p : Addr) (H' : Hp), Same H H' → H' p = some (.lst (lu op k)) → Q (.ref p) H'
def spLb : Sp := fun vs H Q _ => ∃ op l r : Str, vs = [.str op, .str l, .str r] ∧ ∀ (p : Addr) (H' : Hp), Same H H' → H' p = some (.lst (lb op l r)) → Q (.ref p) H'
def spLr : Sp := fun vs H Q _ => ∃ (x : V) (p : Addr) (due : List V), vs = [x, .ref p] ∧ H p = some (.lst due) ∧ strOrNon x ∧ (∀ d ∈ due, ∃ z, d = V.str z) ∧ Q (.bl (right x due)) H
def spPick (K : PySem.W.Frag) : Sp := fun vs H Q _ => ∃ (st a : Addr) (ns : List Int) (i d c m : Int), vs = [.ref st, .int m] ∧ H st = some (.lst [.ref a, .int i, .int d, .int c]) ∧ (∀ o, SqL K (upd H st o) a (ns.map V.int)) ∧ 0 < m ∧ m < 2 ^ 62 ∧ 0 ≤ i ∧
  ∀ (v i' d' c' : Int), 0 ≤ v → v < m → 0 ≤ i' → Q (.int v) (upd H st (.lst [.ref a, .int i', .int d', .int c']))
def spQ : Sp := fun vs H Q _ => ∃ k : Int, vs = [.int k] ∧ 0 ≤ k ∧ k < 74 ∧ ∀ H', Same H H' → Q (.bl true) H'
def spLaw (K : PySem.W.Frag) : Sp := fun vs H Q _ => ∃ (a : Addr) (ns : List Int), vs = [.ref a] ∧ SqL K H a (ns.map V.int) ∧ ns.length ≤ 63 ∧ ∀ H', Q (.bl true) H'
section
variable {P : Program} {w : World} {K : PySem.W.Frag} {mg : Str → Option Value} {base : Heap} {a : Ad}
theorem ok_unary_kind (T : Txt K mg a) : FnOk P w K mg base CX0 1 a.f_unary_kind a.d_unary_kind ["operator", "operand"] spUk := by
  refine T.F_unary_kind.ok sc_unary_kind (fun vs H Q E h => ?_) (fun cdv A outer s H vs Q E hr h => ?_)
  · obtain ⟨op, k, rfl, _⟩ := h; rfl
  · obtain ⟨op, k, rfl, q⟩ := h
    refine ⟨_, (pss_cons (ps_set (i := 2) sc_unary_kind.nd rfl (Or.inl rfl) (pe_ifExp (pt_cmpR op_eq (pv 0) pe_str (nomark _)) (pe_glob (v := .str "boolean") rfl T.g_BOOLEAN ⟨_, rfl⟩) (pe_glob (v := .str "integer") rfl T.g_INTEGER ⟨_, rfl⟩)))
      (pss_one (ps_ret (pe_ifExp (pt_cmpR op_eq (pv 1) (pv 2) (nomark _)) (pv 2) pe_non)))), ?_⟩
    unfold uk ukN at q
    refine ⟨_, rfl, rfl, _, rfl, ite3 (fun e1 => ?_) (fun e1 => ?_)⟩ <;> rw [e1] at q
    · refine ⟨_, rfl, _, rfl, rfl, _, rfl, ite3 (fun e2 => ?_) (fun e2 => ?_)⟩ <;> dsimp only [cond] at q <;> rw [e2] at q
      · exact ⟨_, rfl, q⟩
      · exact q
    · refine ⟨_, rfl, _, rfl, rfl, _, rfl, ite3 (fun e2 => ?_) (fun e2 => ?_)⟩ <;> dsimp only [cond] at q <;> rw [e2] at q
      · exact ⟨_, rfl, q⟩
      · exact q
theorem ok_binary_kind (T : Txt K mg a) : FnOk P w K mg base CX0 1 a.f_binary_kind a.d_binary_kind ["operator", "left", "right"] spBk := by
  refine T.F_binary_kind.ok sc_binary_kind (fun vs H Q E h => ?_) (fun cdv A outer s H vs Q E hr h => ?_)
  · obtain ⟨op, l, r, rfl, _⟩ := h; rfl
  · obtain ⟨op, l, r, rfl, q⟩ := h
    refine ⟨_, (pss_cons (ps_if (pt_cmpR op_ne (pv 1) (pv 2) (nomark _)) (pss_one (ps_ret pe_non)) pss_nil)
      (pss_cons (ps_if (pt_cmpR op_inS (pv 0) (pe_glob (v := .ref a.c_EQUALITY) rfl T.g_EQUALITY rfl) rfl) (pss_one (ps_ret (pe_glob (v := .str "boolean") rfl T.g_BOOLEAN ⟨_, rfl⟩))) pss_nil)
      (pss_cons (ps_if (pt_cmpR op_inS (pv 0) (pe_glob (v := .ref a.c_ARITHMETIC) rfl T.g_ARITHMETIC rfl) rfl) (pss_one (ps_ret (pe_ifExp (pt_cmpR op_eq (pv 1) (pe_glob (v := .str "integer") rfl T.g_INTEGER ⟨_, rfl⟩) (nomark _)) (pe_glob (v := .str "integer") rfl T.g_INTEGER ⟨_, rfl⟩) pe_non))) pss_nil)
      (pss_cons (ps_set (i := 3) sc_binary_kind.nd rfl (Or.inl rfl) (pe_ifExp (pt_cmpR op_inS (pv 0) (pe_glob (v := .ref a.c_ORDER) rfl T.g_ORDER rfl) rfl) (pe_glob (v := .str "integer") rfl T.g_INTEGER ⟨_, rfl⟩) (pe_glob (v := .str "boolean") rfl T.g_BOOLEAN ⟨_, rfl⟩)))
      (pss_one (ps_ret (pe_ifExp (pt_cmpR op_eq (pv 1) (pv 3) (nomark _)) (pe_glob (v := .str "boolean") rfl T.g_BOOLEAN ⟨_, rfl⟩) pe_non))))))), ?_⟩
    unfold bk bkN at q
    refine ⟨_, rfl, _, rfl, rfl, _, rfl, ite3 (fun e1 => ?_) (fun e1 => ?_)⟩ <;> rw [e1] at q
    · exact q
    refine ⟨_, rfl, _, _, rfl, .inr (T.q_EQUALITY _), rfl, rfl, _, rfl, ite3 (fun e2 => ?_) (fun e2 => ?_)⟩ <;> dsimp only [cond] at q <;> rw [e2] at q
    · exact q
    refine ⟨_, rfl, _, _, rfl, .inr (T.q_ARITHMETIC _), rfl, rfl, _, rfl, ite3 (fun e3 => ?_) (fun e3 => ?_)⟩ <;> dsimp only [cond] at q <;> rw [e3] at q
    · refine ⟨_, rfl, rfl, _, rfl, ite3 (fun e4 => ?_) (fun e4 => ?_)⟩ <;> dsimp only [cond] at q <;> rw [e4] at q <;> exact q
    refine ⟨_, rfl, _, _, rfl, .inr (T.q_ORDER _), rfl, rfl, _, rfl, ite3 (fun e5 => ?_) (fun e5 => ?_)⟩ <;> dsimp only [cond] at q <;> rw [e5] at q <;> dsimp only [cond] at q
    · refine ⟨_, rfl, _, rfl, rfl, _, rfl, ite3 (fun e2 => ?_) (fun e2 => ?_)⟩ <;> rw [e2] at q <;> exact q
    · refine ⟨_, rfl, _, rfl, rfl, _, rfl, ite3 (fun e2 => ?_) (fun e2 => ?_)⟩ <;> rw [e2] at q <;> exact q
theorem ok_law_pick (T : Txt K mg a) : FnOk P w K mg base CX0 1 a.f_law_pick a.d_law_pick ["state", "limit"] (spPick K) := by
  refine T.F__law_pick.ok sc_law_pick (fun vs H Q E h => ?_) (fun cdv A outer s H vs Q E hr h => ?_)
  · obtain ⟨_, _, _, _, _, _, _, rfl, _⟩ := h; rfl
  · obtain ⟨st, sa, ns, i, d, c, m, rfl, hst, hs, hm, hm2, hi, q⟩ := h
    have hdv : CDivW 0 m := wide_div (i := 0) (b := 62) hm (by omega) (by decide) (by decide)
    refine ⟨_, (pss_cons (ps_asg (pe_op op_add (pe_ix ix_list (pv 0) pe_int (fun _ _ => rfl)) pe_int) (pg_sub (pv 0) pe_int set_list))
      (pss_cons (ps_if (pt_cmpR op_gt (pe_ix ix_list (pv 0) pe_int (fun _ _ => rfl)) pe_int (nomark _)) (pss_cons (ps_set (i := 2) sc_law_pick.nd rfl (Or.inl rfl) (pe_op op_mod (pe_callTy call_int1 (by rfl) T.b_int (by decide +kernel) (pa_cons (pe_ix ix_list (pv 0) pe_int (fun _ _ => rfl)) pa_nil)) (pv 1)))
      (pss_cons (ps_asg (pe_op op_fdivW (pe_ix ix_list (pv 0) pe_int (fun _ _ => rfl)) (pv 1)) (pg_sub (pv 0) pe_int set_list))
      (pss_one (ps_ret (pv 2))))) pss_nil)
      (pss_cons (ps_set (i := 3) sc_law_pick.nd rfl (Or.inl rfl) pe_int)
      (pss_cons (ps_if (pt_cmpR op_lt (pe_ix ix_list (pv 0) pe_int (fun _ _ => rfl)) (pe_callB call_len_seq (by rfl) T.b_len (by decide +kernel) (pa_cons (pe_ix ix_list (pv 0) pe_int (fun _ _ => rfl)) pa_nil)) (nomark _)) (pss_one (ps_set (i := 3) sc_law_pick.nd rfl (Or.inl rfl) (pe_ix ix_list (pe_ix ix_list (pv 0) pe_int (fun _ _ => rfl)) (pe_ix ix_list (pv 0) pe_int (fun _ _ => rfl)) (fun _ _ => rfl)))) pss_nil)
      (pss_cons (ps_asg (pe_op op_add (pe_ix ix_list (pv 0) pe_int (fun _ _ => rfl)) pe_int) (pg_sub (pv 0) pe_int set_list))
      (pss_cons (ps_if (pt_cmpR op_ge (pv 3) (pe_op op_pow pe_int pe_int) (nomark _)) (pss_cons (ps_asg (pe_op op_fdivW (pv 3) (pv 1)) (pg_sub (pv 0) pe_int set_list))
      (pss_one (ps_ret (pe_op op_mod (pe_callTy call_int1 (by rfl) T.b_int (by decide +kernel) (pa_cons (pv 3) pa_nil)) (pv 1))))) pss_nil)
      (pss_cons (ps_set (i := 4) sc_law_pick.nd rfl (Or.inl rfl) (pe_op op_mod (pe_callTy call_int1 (by rfl) T.b_int (by decide +kernel) (pa_cons (pe_op op_add (pe_op op_mul (pe_op op_mod (pe_callTy call_int1 (by rfl) T.b_int (by decide +kernel) (pa_cons (pe_op op_add (pe_op op_add (pe_op op_mul (pv 3) pe_int) (pe_op op_mul (pe_ix ix_list (pv 0) pe_int (fun _ _ => rfl)) pe_int)) pe_int) pa_nil)) pe_int) pe_int) (pe_ix ix_list (pv 0) pe_int (fun _ _ => rfl))) pa_nil)) pe_int))
      (pss_one (ps_ret (pe_op op_mod (pe_callTy call_int1 (by rfl) T.b_int (by decide +kernel) (pa_cons (pe_op op_fdivW (pv 4) pe_int) pa_nil)) (pv 1))))))))))), ?_⟩
    -- state[3] = state[3] + 1
    refine ⟨_, rfl, _, _, _, _, rfl, rfl, SqL.of hst, rfl, _, _, rfl, rfl, _, rfl, _, _, _, _, rfl, rfl, hst, rfl, ?_⟩
    -- if state[2] > 0
    refine ⟨_, rfl, _, _, _, _, rfl, rfl, SqL.of upd_same, rfl, _, _, rfl, rfl, _, rfl, ite3 (fun e1 => ?_) (fun e1 => ?_)⟩
    · refine ⟨_, rfl, _, _, _, _, rfl, rfl, SqL.of upd_same, rfl, .inl ⟨_, rfl, _, rfl, _, _, rfl, rfl, hm, ?_⟩⟩
      refine ⟨_, rfl, _, _, _, _, rfl, rfl, SqL.of upd_same, rfl, _, rfl, _, _, rfl, rfl, ⟨hm, hdv.2⟩, _, rfl, _, _, _, _, rfl, rfl, upd_same, rfl, ?_⟩
      refine ⟨_, rfl, ?_⟩
      rw [upd_upd]
      exact q _ i (d / m) (c + 1) (Int.emod_nonneg _ (by omega)) (Int.emod_lt_of_pos _ hm) hi
    · -- cell = 0; if state[1] < len(state[0]): cell = state[0][state[1]]
      refine ⟨_, rfl, _, _, _, _, rfl, rfl, SqL.of upd_same, rfl, _, rfl, _, _, _, _, rfl, rfl, SqL.of upd_same, rfl, _, _, rfl, .inl (hs _), _, _, rfl, rfl, _, rfl, ite3 (fun e2 => ?_) (fun e2 => ?_)⟩
      rotate_left
      · refine ⟨_, rfl, _, _, _, _, rfl, rfl, SqL.of upd_same, rfl, _, _, rfl, rfl, _, rfl, _, _, _, _, rfl, rfl, upd_same, rfl, ?_⟩
        -- if cell >= 10 ** 18
        refine ⟨_, rfl, _, _, rfl, rfl, ⟨by decide, by decide, by decide⟩, _, _, rfl, rfl, _, rfl, ite3 (fun e3 => ?_) (fun e3 => ?_)⟩
        · refine ⟨_, rfl, _, rfl, _, _, rfl, rfl, ⟨hm, hdv.2⟩, _, rfl, _, _, _, _, rfl, rfl, upd_same, rfl, ?_⟩
          refine ⟨_, rfl, .inl ⟨_, rfl, _, rfl, _, _, rfl, rfl, hm, ?_⟩⟩
          rw [upd_upd, upd_upd]
          exact q _ (i + 1) _ (c + 1) (Int.emod_nonneg _ (by omega)) (Int.emod_lt_of_pos _ hm) (by omega)
        · refine ⟨_, rfl, _, _, rfl, rfl, .inr (by decide), _, rfl, _, _, _, _, rfl, rfl, SqL.of upd_same, rfl, _, _, rfl, rfl, .inr (by decide), _, _, rfl, rfl, _, _, rfl, rfl, .inl ⟨_, rfl, _, _, rfl, rfl, (by show (0 : Int) < 2147483647; decide), _, _, rfl, rfl, .inr (by decide),
            _, rfl, _, _, _, _, rfl, rfl, SqL.of upd_same, rfl, _, _, rfl, rfl, .inl ⟨_, rfl, _, _, rfl, rfl, (by show (0 : Int) < 2147483629; decide), ?_⟩⟩⟩
          refine ⟨_, rfl, _, _, rfl, rfl, wide_div (b := 3) (by decide) (by decide) (by decide) (by decide), .inl ⟨_, rfl, _, rfl, _, _, rfl, rfl, hm, ?_⟩⟩
          rw [upd_upd]
          exact q _ (i + 1) d (c + 1) (Int.emod_nonneg _ (by omega)) (Int.emod_lt_of_pos _ hm) (by omega)
      · have e2' : i < (ns.length : Int) := by simpa using e2
        obtain ⟨j, rfl⟩ : ∃ j : Nat, i = (j : Int) := ⟨i.toNat, by omega⟩
        have hj : j < ns.length := by omega
        refine ⟨_, rfl, _, _, _, _, rfl, rfl, SqL.of upd_same, rfl, _, rfl, _, _, _, _, rfl, rfl, SqL.of upd_same, rfl, _, _, _, _, rfl, rfl, hs _, atI_nat (v := V.int ns[j]) (by simp [hj]), ?_⟩
        refine ⟨_, rfl, _, _, _, _, rfl, rfl, SqL.of upd_same, rfl, _, _, rfl, rfl, _, rfl, _, _, _, _, rfl, rfl, upd_same, rfl, ?_⟩
        -- if cell >= 10 ** 18
        refine ⟨_, rfl, _, _, rfl, rfl, ⟨by decide, by decide, by decide⟩, _, _, rfl, rfl, _, rfl, ite3 (fun e3 => ?_) (fun e3 => ?_)⟩
        · refine ⟨_, rfl, _, rfl, _, _, rfl, rfl, ⟨hm, hdv.2⟩, _, rfl, _, _, _, _, rfl, rfl, upd_same, rfl, ?_⟩
          refine ⟨_, rfl, .inl ⟨_, rfl, _, rfl, _, _, rfl, rfl, hm, ?_⟩⟩
          rw [upd_upd, upd_upd]
          exact q _ ((j : Int) + 1) _ (c + 1) (Int.emod_nonneg _ (by omega)) (Int.emod_lt_of_pos _ hm) (by omega)
        · refine ⟨_, rfl, _, _, rfl, rfl, .inr (by decide), _, rfl, _, _, _, _, rfl, rfl, SqL.of upd_same, rfl, _, _, rfl, rfl, .inr (by decide), _, _, rfl, rfl, _, _, rfl, rfl, .inl ⟨_, rfl, _, _, rfl, rfl, (by show (0 : Int) < 2147483647; decide), _, _, rfl, rfl, .inr (by decide),
            _, rfl, _, _, _, _, rfl, rfl, SqL.of upd_same, rfl, _, _, rfl, rfl, .inl ⟨_, rfl, _, _, rfl, rfl, (by show (0 : Int) < 2147483629; decide), ?_⟩⟩⟩
          refine ⟨_, rfl, _, _, rfl, rfl, wide_div (b := 3) (by decide) (by decide) (by decide) (by decide), .inl ⟨_, rfl, _, rfl, _, _, rfl, rfl, hm, ?_⟩⟩
          rw [upd_upd]
          exact q _ ((j : Int) + 1) d (c + 1) (Int.emod_nonneg _ (by omega)) (Int.emod_lt_of_pos _ hm) (by omega)
theorem ok_law_unary (T : Txt K mg a) : FnOk P w K mg base CX0 1 a.f_law_unary a.d_law_unary ["operator", "operand"] spLu := by
  refine T.F__law_unary.ok sc_law_unary (fun vs H Q E h => ?_) (fun cdv A outer s H vs Q E hr h => ?_)
  · obtain ⟨_, _, rfl, _⟩ := h; rfl
  · obtain ⟨op, k, rfl, q⟩ := h
    refine ⟨_, (pss_cons (ps_if (pt_cmpR op_eq (pv 0) pe_str (nomark _)) (pss_one (ps_ret (pe_op op_rep (pe_lst (pa_cons pe_str pa_nil)) (pe_callTy call_int1 (by rfl) T.b_int (by decide +kernel) (pa_cons (pe_cmpR op_eq (pv 1) pe_str (nomark _)) pa_nil))))) pss_nil)
      (pss_one (ps_ret (pe_op op_rep (pe_lst (pa_cons pe_str pa_nil)) (pe_callTy call_int1 (by rfl) T.b_int (by decide +kernel) (pa_cons (pe_cmpR op_eq (pv 1) pe_str (nomark _)) pa_nil)))))), ?_⟩
    unfold lu at q
    refine ⟨_, rfl, rfl, _, rfl, ite3 (fun e1 => ?_) (fun e1 => ?_)⟩ <;> rw [e1] at q <;> dsimp only [cond] at q
    · refine ⟨by decide, fun p hp => ⟨_, rfl, rfl, .inr ⟨_, rfl, _, _, _, rfl, rfl, upd_same, ?_⟩⟩⟩
      cases e2 : decide (V.str k = V.str "boolean") <;> rw [e2] at q <;> dsimp only [cond] at q
      · exact ⟨by decide, by decide, by decide, fun p' hp' => q p' _ (sN (sN (Same.refl _) hp) hp') upd_same⟩
      · exact ⟨by decide, by decide, by decide, fun p' hp' => q p' _ (sN (sN (Same.refl _) hp) hp') upd_same⟩
    · refine ⟨by decide, fun p hp => ⟨_, rfl, rfl, .inr ⟨_, rfl, _, _, _, rfl, rfl, upd_same, ?_⟩⟩⟩
      cases e2 : decide (V.str k = V.str "integer") <;> rw [e2] at q <;> dsimp only [cond] at q
      · exact ⟨by decide, by decide, by decide, fun p' hp' => q p' _ (sN (sN (Same.refl _) hp) hp') upd_same⟩
      · exact ⟨by decide, by decide, by decide, fun p' hp' => q p' _ (sN (sN (Same.refl _) hp) hp') upd_same⟩
theorem ok_law_binary (T : Txt K mg a) : FnOk P w K mg base CX0 1 a.f_law_binary a.d_law_binary ["operator", "left", "right"] spLb := by
  refine T.F__law_binary.ok sc_law_binary (fun vs H Q E h => ?_) (fun cdv A outer s H vs Q E hr h => ?_)
  · obtain ⟨_, _, _, rfl, _⟩ := h; rfl
  · obtain ⟨op, l, r, rfl, q⟩ := h
    refine ⟨_, (pss_cons (ps_if (pt_cmpR op_inS (pv 0) (pe_tup (pa_cons pe_str (pa_cons pe_str pa_nil))) rfl) (pss_one (ps_ret (pe_op op_rep (pe_lst (pa_cons pe_str pa_nil)) (pe_callTy call_int1 (by rfl) T.b_int (by decide +kernel) (pa_cons (pe_cmpR op_eq (pv 1) (pv 2) (nomark _)) pa_nil))))) pss_nil)
      (pss_cons (ps_set (i := 3) sc_law_binary.nd rfl (Or.inl rfl) pe_str)
      (pss_cons (ps_if (pt_cmpR op_inS (pv 0) (pe_tup (pa_cons pe_str (pa_cons pe_str (pa_cons pe_str (pa_cons pe_str (pa_cons pe_str pa_nil)))))) rfl) (pss_one (ps_set (i := 3) sc_law_binary.nd rfl (Or.inl rfl) pe_str)) pss_nil)
      (pss_cons (ps_if (PW.pt (pw_or (pt_cmpR op_ne (pv 1) (pv 3) (nomark _)) (pw_or1 (pt_cmpR op_ne (pv 2) (pv 3) (nomark _))))) (pss_one (ps_ret (pe_lst pa_nil))) pss_nil)
      (pss_cons (ps_if (pt_cmpR op_inS (pv 0) (pe_tup (pa_cons pe_str (pa_cons pe_str (pa_cons pe_str (pa_cons pe_str (pa_cons pe_str (pa_cons pe_str pa_nil))))))) rfl) (pss_one (ps_ret (pe_lst (pa_cons pe_str pa_nil)))) pss_nil)
      (pss_one (ps_ret (pe_lst (pa_cons pe_str pa_nil))))))))), ?_⟩
    unfold lb lbN at q
    refine ⟨_, rfl, by decide, fun p1 n1 => ⟨_, _, rfl, .inr (SqT.of upd_same), rfl, rfl, _, rfl, ite3 (fun e1 => ?_) (fun e1 => ?_)⟩⟩ <;> rw [e1] at q <;> dsimp only [cond] at q
    · refine ⟨by decide, fun p hp => ⟨_, rfl, _, rfl, rfl, .inr ⟨_, rfl, _, _, _, rfl, rfl, upd_same, ?_⟩⟩⟩
      have s1 := sN (sN (Same.refl H) n1 (o := .tup [.str "=", .str "/="])) (o := .lst [.str "boolean"]) hp
      cases e2 : decide (V.str l = V.str r) <;> rw [e2] at q <;> dsimp only [cond] at q
      · exact ⟨by decide, by decide, by decide, fun p' hp' => q p' _ (sN s1 hp') upd_same⟩
      · exact ⟨by decide, by decide, by decide, fun p' hp' => q p' _ (sN s1 hp') upd_same⟩
    have s1 := sN (Same.refl H) n1 (o := .tup [.str "=", .str "/="])
    refine ⟨_, rfl, by decide, fun p2 n2 => ⟨_, _, rfl, .inr (SqT.of upd_same), rfl, rfl, _, rfl, ite3 (fun e2 => ?_) (fun e2 => ?_)⟩⟩ <;> rw [e2] at q <;> dsimp only [cond] at q
    all_goals
      have s2 := sN s1 n2 (o := .tup [.str "and", .str "or", .str "xor", .str "and then", .str "or else"])
      refine ⟨_, rfl, _, rfl, rfl, _, rfl, ite3 (fun e3 => ?_) (fun e3 => ?_)⟩ <;> rw [e3] at q <;> dsimp only [cond] at q
      · refine iteT ?_
        exact ⟨by decide, fun p' hp' => q p' _ (sN s2 hp') upd_same⟩
      refine ⟨_, rfl, _, rfl, rfl, _, rfl, ?_⟩
      refine ite3 (fun e4 => ?_) (fun e4 => ?_) <;> rw [e4] at q <;> dsimp only [cond] at q
      · exact ⟨by decide, fun p' hp' => q p' _ (sN s2 hp') upd_same⟩
      refine ⟨_, rfl, by decide, fun p3 n3 => ⟨_, _, rfl, .inr (SqT.of upd_same), rfl, rfl, _, rfl, ite3 (fun e5 => ?_) (fun e5 => ?_)⟩⟩ <;> rw [e5] at q <;> dsimp only [cond] at q
      · exact ⟨by decide, fun p' hp' => q p' _ (sN (sN s2 n3) hp') upd_same⟩
      · exact ⟨by decide, fun p' hp' => q p' _ (sN (sN s2 n3) hp') upd_same⟩
theorem ok_law_right (T : Txt K mg a) : FnOk P w K mg base CX0 1 a.f_law_right a.d_law_right ["actual", "due"] spLr := by
  refine T.F__law_right.ok sc_law_right (fun vs H Q E h => ?_) (fun cdv A outer s H vs Q E hr h => ?_)
  · obtain ⟨_, _, _, rfl, _⟩ := h; rfl
  · obtain ⟨x, p, due, rfl, hp, hx, hd, q⟩ := h
    refine ⟨_, (pss_cons (ps_if (pt_cmpR op_eq (pe_callB call_len_seq (by rfl) T.b_len (by decide +kernel) (pa_cons (pv 1) pa_nil)) pe_int (nomark _)) (pss_one (ps_ret (pe_cmpR op_isN (pv 0) pe_non (nomark _)))) pss_nil)
      (pss_one (ps_ret (pe_and (pe_callB call_isi (by rfl) T.b_isinstance (by decide +kernel) (pa_cons (pv 0) (pa_cons (pe_bltn (v := .ty "str") (by rfl) T.b_str (by decide +kernel) rfl) pa_nil))) (pe_one (pe_cmpR op_eq (pv 0) (pe_ix ix_list (pv 1) pe_int (fun _ _ => rfl)) (nomark _))))))), ?_⟩
    refine ⟨_, rfl, _, _, rfl, .inl (SqL.of hp), rfl, _, rfl, ite3 (fun e1 => ?_) (fun e1 => ?_)⟩
    · have e1' : due = [] := by
        cases due with
        | nil => rfl
        | cons d r => simp at e1; omega
      subst e1'
      exact ⟨_, rfl, rfl, q⟩
    · cases due with
      | nil => simp at e1
      | cons d r =>
        obtain ⟨z, rfl⟩ := hd d (by simp)
        rcases hx with rfl | ⟨y, rfl⟩
        · exact ⟨_, rfl, _, _, _, _, _, rfl, .ty _, .base .non, kit_ty (by decide +kernel : kitB "NoneType" "str" = some false), _, rfl, iteF q⟩
        · exact ⟨_, rfl, _, _, _, _, _, rfl, .ty _, .base (.str _), kit_ty (by decide +kernel : kitB "str" "str" = some true), _, rfl, iteT ⟨_, rfl, _, rfl, _, _, _, _, rfl, rfl, SqL.of hp, at0, rfl, q⟩⟩
def opU (j : Nat) : Str := (["-", "abs", "not"] : List Str).getD j ""
def opB (j : Nat) : Str := (["+", "-", "*", "/", "mod", "rem", "=", "/=", "<", "<=", ">", ">=", "and", "or", "xor", "and then", "or else"] : List Str).getD j ""
def kdN (j : Nat) : Str := (["integer", "boolean"] : List Str).getD j ""
theorem opU_at : ∀ j : _root_.Fin 3, [V.str "-", V.str "abs", V.str "not"][j.val]? = some (V.str (opU j.val)) := by decide +kernel
theorem kd_at : ∀ j : _root_.Fin 2, [V.str "integer", V.str "boolean"][j.val]? = some (V.str (kdN j.val)) := by decide +kernel
theorem opB_at : ∀ j : _root_.Fin 17, ([V.str "+", V.str "-", V.str "*", V.str "/", V.str "mod", V.str "rem", V.str "=", V.str "/=", V.str "<", V.str "<=", V.str ">", V.str ">="] ++ [V.str "and", V.str "or", V.str "xor", V.str "and then", V.str "or else"])[j.val]? = some (V.str (opB j.val)) := by decide +kernel
theorem uAll : ∀ (j : _root_.Fin 3) (i : _root_.Fin 2), right (uk (opU j.val) (kdN i.val)) (lu (opU j.val) (kdN i.val)) = true := by decide +kernel
theorem bAll : ∀ (j : _root_.Fin 17) (l r : _root_.Fin 2), right (bk (opB j.val) (kdN l.val) (kdN r.val)) (lb (opB j.val) (kdN l.val) (kdN r.val)) = true := by decide +kernel
theorem son_cond {b : Bool} {x y : V} (hx : strOrNon x) (hy : strOrNon y) : strOrNon (cond b x y) := by cases b <;> assumption
theorem son_str {z : Str} : strOrNon (.str z) := .inr ⟨z, rfl⟩
theorem son_non : strOrNon .non := .inl rfl
theorem son_uk (op k : Str) : strOrNon (uk op k) := son_cond (son_cond son_str son_str) son_non
theorem son_bk (op l r : Str) : strOrNon (bk op l r) := son_cond son_non (son_cond son_str (son_cond (son_cond son_str son_non) (son_cond son_str son_non)))
def allStr (xs : List V) : Prop := ∀ d ∈ xs, ∃ z, d = V.str z
theorem as_cond {b : Bool} {x y : List V} (hx : allStr x) (hy : allStr y) : allStr (cond b x y) := by cases b <;> assumption
theorem as_nil : allStr [] := fun _ h => by simp at h
theorem as_one {z : Str} : allStr [.str z] := fun d h => ⟨z, by simpa using h⟩
theorem as_lu (op k : Str) : allStr (lu op k) := as_cond (as_cond as_one as_nil) (as_cond as_one as_nil)
theorem as_lb (op l r : Str) : allStr (lb op l r) := as_cond (as_cond as_one as_nil) (as_cond as_nil (as_cond as_nil (as_cond as_one as_one)))
theorem ok_law_question (T : Txt K mg a) : FnOk P w K mg base CX0 2 a.f_law_question a.d_law_question ["k"] spQ := by
  have G_unary_kind : FnOk P w K mg base CX0 1 _ _ _ _ := ok_unary_kind T
  have G_binary_kind : FnOk P w K mg base CX0 1 _ _ _ _ := ok_binary_kind T
  have G_law_unary : FnOk P w K mg base CX0 1 _ _ _ _ := ok_law_unary T
  have G_law_binary : FnOk P w K mg base CX0 1 _ _ _ _ := ok_law_binary T
  have G_law_right : FnOk P w K mg base CX0 1 _ _ _ _ := ok_law_right T
  refine T.F__law_question.ok sc_law_question (fun vs H Q E h => ?_) (fun cdv A outer s H vs Q E hr h => ?_)
  · obtain ⟨_, rfl, _⟩ := h; rfl
  · obtain ⟨k, rfl, k0, k1, q⟩ := h
    refine ⟨_, (pss_cons (ps_set (i := 1) sc_law_question.nd rfl (Or.inl rfl) (pe_lst (pa_cons pe_str (pa_cons pe_str pa_nil))))
      (pss_cons (ps_if (pt_cmpR op_lt (pv 0) pe_int (nomark _)) (pss_cons (ps_set (i := 2) sc_law_question.nd rfl (Or.inl rfl) (pe_ix ix_list (pe_lst (pa_cons pe_str (pa_cons pe_str (pa_cons pe_str pa_nil)))) (pe_op op_fdivW (pv 0) pe_int) (fun _ _ => rfl)))
      (pss_cons (ps_set (i := 3) sc_law_question.nd rfl (Or.inl rfl) (pe_ix ix_list (pv 1) (pe_op op_sub (pv 0) (pe_op op_mul (pe_op op_fdivW (pv 0) pe_int) pe_int)) (fun _ _ => rfl)))
      (pss_one (ps_ret (pe_call G_law_right (hr.mono (by decide)) rfl T.g__law_right T.k__law_right T.bd__law_right .nil pass0 (pa_cons (pe_call G_unary_kind (hr.mono (by decide)) rfl T.g_unary_kind T.k_unary_kind T.bd_unary_kind .nil pass0 (pa_cons (pv 2) (pa_cons (pv 3) pa_nil))) (pa_cons (pe_call G_law_unary (hr.mono (by decide)) rfl T.g__law_unary T.k__law_unary T.bd__law_unary .nil pass0 (pa_cons (pv 2) (pa_cons (pv 3) pa_nil))) pa_nil))))))) pss_nil)
      (pss_cons (ps_set (i := 4) sc_law_question.nd rfl (Or.inl rfl) (pe_lst (pa_cons pe_str (pa_cons pe_str (pa_cons pe_str (pa_cons pe_str (pa_cons pe_str (pa_cons pe_str (pa_cons pe_str (pa_cons pe_str (pa_cons pe_str (pa_cons pe_str (pa_cons pe_str (pa_cons pe_str pa_nil))))))))))))))
      (pss_cons (ps_set (i := 4) sc_law_question.nd rfl (Or.inl rfl) (pe_op op_cat (pv 4) (pe_lst (pa_cons pe_str (pa_cons pe_str (pa_cons pe_str (pa_cons pe_str (pa_cons pe_str pa_nil))))))))
      (pss_cons (ps_set (i := 5) sc_law_question.nd rfl (Or.inl rfl) (pe_op op_sub (pv 0) pe_int))
      (pss_cons (ps_set (i := 2) sc_law_question.nd rfl (Or.inl rfl) (pe_ix ix_list (pv 4) (pe_op op_fdivW (pv 5) pe_int) (fun _ _ => rfl)))
      (pss_cons (ps_set (i := 6) sc_law_question.nd rfl (Or.inl rfl) (pe_ix ix_list (pv 1) (pe_op op_sub (pe_op op_fdivW (pv 5) pe_int) (pe_op op_mul (pe_op op_fdivW (pv 5) pe_int) pe_int)) (fun _ _ => rfl)))
      (pss_cons (ps_set (i := 7) sc_law_question.nd rfl (Or.inl rfl) (pe_ix ix_list (pv 1) (pe_op op_sub (pv 5) (pe_op op_mul (pe_op op_fdivW (pv 5) pe_int) pe_int)) (fun _ _ => rfl)))
      (pss_one (ps_ret (pe_call G_law_right (hr.mono (by decide)) rfl T.g__law_right T.k__law_right T.bd__law_right .nil pass0 (pa_cons (pe_call G_binary_kind (hr.mono (by decide)) rfl T.g_binary_kind T.k_binary_kind T.bd_binary_kind .nil pass0 (pa_cons (pv 2) (pa_cons (pv 6) (pa_cons (pv 7) pa_nil)))) (pa_cons (pe_call G_law_binary (hr.mono (by decide)) rfl T.g__law_binary T.k__law_binary T.bd__law_binary .nil pass0 (pa_cons (pv 2) (pa_cons (pv 6) (pa_cons (pv 7) pa_nil)))) pa_nil))))))))))))), ?_⟩
    have d2 : CDivW 0 2 := wide_div (b := 2) (by decide) (by decide) (by decide) (by decide)
    have d4 : CDivW 0 4 := wide_div (b := 3) (by decide) (by decide) (by decide) (by decide)
    refine ⟨by decide, fun p1 n1 => ⟨_, rfl, _, _, rfl, rfl, _, rfl, ite3 (fun e1 => ?_) (fun e1 => ?_)⟩⟩
    · have hk : k < 6 := by simpa using e1
      obtain ⟨j, hj⟩ : ∃ j : Nat, k / 2 = (j : Int) := ⟨(k / 2).toNat, by omega⟩
      obtain ⟨i, hi⟩ : ∃ i : Nat, k - k / 2 * 2 = (i : Int) := ⟨(k - k / 2 * 2).toNat, by omega⟩
      have j3 : j < 3 := by omega
      have i2 : i < 2 := by omega
      refine ⟨by decide, fun p2 n2 => ⟨_, rfl, _, _, rfl, rfl, d2, _, _, _, _, rfl, rfl, SqL.of upd_same, by rw [hj]; exact atI_nat (opU_at ⟨j, j3⟩), ?_⟩⟩
      have hp1 : upd (upd H p1 (.lst [.str "integer", .str "boolean"])) p2 (.lst [.str "-", .str "abs", .str "not"]) p1 = some (.lst [.str "integer", .str "boolean"]) := by
        rw [upd_ne (ne_of_none upd_same n2), upd_same]
      refine ⟨_, rfl, _, rfl, _, rfl, _, _, rfl, rfl, d2, _, _, rfl, rfl, .inr (by decide), _, _, rfl, rfl, _, _, _, _, rfl, rfl, SqL.of hp1, by rw [hi]; exact atI_nat (kd_at ⟨i, i2⟩), ?_⟩
      refine ⟨_, rfl, _, rfl, _, _, rfl, _, rfl, _, rfl, _, _, rfl, fun p' H' s' h' => ⟨_, _, _, rfl, h', son_uk _ _, as_lu _ _, ?_⟩⟩
      rw [uAll ⟨j, j3⟩ ⟨i, i2⟩]
      exact q _ ((sN (sN (Same.refl H) n1) n2).trans s')
    · have hk : 6 ≤ k := by simpa using e1
      refine ⟨by decide, fun p2 n2 => ⟨_, rfl, by decide, fun p3 n3 => ?_⟩⟩
      have hp2 : upd (upd (upd H p1 (.lst [.str "integer", .str "boolean"])) p2 (.lst [V.str "+", V.str "-", V.str "*", V.str "/", V.str "mod", V.str "rem", V.str "=", V.str "/=", V.str "<", V.str "<=", V.str ">", V.str ">="])) p3 (.lst [V.str "and", V.str "or", V.str "xor", V.str "and then", V.str "or else"]) p2 = some (.lst [V.str "+", V.str "-", V.str "*", V.str "/", V.str "mod", V.str "rem", V.str "=", V.str "/=", V.str "<", V.str "<=", V.str ">", V.str ">="]) := by
        rw [upd_ne (ne_of_none upd_same n3), upd_same]
      refine ⟨_, _, _, _, rfl, rfl, hp2, upd_same, by decide, fun p4 n4 => ?_⟩
      have hp1 : upd (upd (upd (upd H p1 (.lst [.str "integer", .str "boolean"])) p2 (.lst [V.str "+", V.str "-", V.str "*", V.str "/", V.str "mod", V.str "rem", V.str "=", V.str "/=", V.str "<", V.str "<=", V.str ">", V.str ">="])) p3 (.lst [V.str "and", V.str "or", V.str "xor", V.str "and then", V.str "or else"])) p4 (.lst ([V.str "+", V.str "-", V.str "*", V.str "/", V.str "mod", V.str "rem", V.str "=", V.str "/=", V.str "<", V.str "<=", V.str ">", V.str ">="] ++ [V.str "and", V.str "or", V.str "xor", V.str "and then", V.str "or else"])) p1 = some (.lst [.str "integer", .str "boolean"]) :=
        sN (sN (sN (Same.refl _) n2) n3) n4 _ _ upd_same
      obtain ⟨j, hj⟩ : ∃ j : Nat, (k - 6) / 4 = (j : Int) := ⟨((k - 6) / 4).toNat, by omega⟩
      obtain ⟨l, hl⟩ : ∃ l : Nat, (k - 6) / 2 - (k - 6) / 4 * 2 = (l : Int) := ⟨((k - 6) / 2 - (k - 6) / 4 * 2).toNat, by omega⟩
      obtain ⟨r, hr'⟩ : ∃ r : Nat, (k - 6) - (k - 6) / 2 * 2 = (r : Int) := ⟨((k - 6) - (k - 6) / 2 * 2).toNat, by omega⟩
      have j17 : j < 17 := by omega
      have l2 : l < 2 := by omega
      have r2 : r < 2 := by omega
      refine ⟨_, rfl, _, _, rfl, rfl, ?_⟩
      refine ⟨_, rfl, _, rfl, _, _, rfl, rfl, d4, _, _, _, _, rfl, rfl, SqL.of upd_same, by rw [hj]; exact atI_nat (opB_at ⟨j, j17⟩), ?_⟩
      refine ⟨_, rfl, _, rfl, _, _, rfl, rfl, d2, _, rfl, _, _, rfl, rfl, d4, _, _, rfl, rfl, .inr (by decide), _, _, rfl, rfl, _, _, _, _, rfl, rfl, SqL.of hp1, by rw [hl]; exact atI_nat (kd_at ⟨l, l2⟩), ?_⟩
      refine ⟨_, rfl, _, rfl, _, rfl, _, _, rfl, rfl, d2, _, _, rfl, rfl, .inr (by decide), _, _, rfl, rfl, _, _, _, _, rfl, rfl, SqL.of hp1, by rw [hr']; exact atI_nat (kd_at ⟨r, r2⟩), ?_⟩
      refine ⟨_, rfl, _, rfl, _, rfl, _, _, _, rfl, _, rfl, _, rfl, _, rfl, _, _, _, rfl, fun p' H' s' h' => ⟨_, _, _, rfl, h', son_bk _ _ _, as_lb _ _ _, ?_⟩⟩
      rw [bAll ⟨j, j17⟩ ⟨l, l2⟩ ⟨r, r2⟩]
      exact q _ ((sN (sN (sN (sN (Same.refl H) n1) n2) n3) n4).trans s')
theorem ok_law (T : Txt K mg a) : FnOk P w K mg base CX0 3 a.f_law a.d_law ["script"] (spLaw K) := by
  have G_law_pick : FnOk P w K mg base CX0 1 _ _ _ _ := ok_law_pick T
  have G_law_question : FnOk P w K mg base CX0 2 _ _ _ _ := ok_law_question T
  refine T.F_law.ok sc_law (fun vs H Q E h => ?_) (fun cdv A outer s H vs Q E hr h => ?_)
  · obtain ⟨_, _, rfl, _⟩ := h; rfl
  · obtain ⟨sa, ns, rfl, hS, hlen, q⟩ := h
    refine ⟨_, (pss_cons (ps_set (i := 1) sc_law.nd rfl (Or.inl rfl) (pe_lst (pa_cons (pv 0) (pa_cons pe_int (pa_cons pe_int (pa_cons pe_int pa_nil))))))
      (pss_cons (ps_for PassesOwn.never rfl (pi_range1 rfl T.b_range (pa_cons (pe_call G_law_pick (hr.mono (by decide)) rfl T.g__law_pick T.k__law_pick T.bd__law_pick .nil pass0 (pa_cons (pv 1) (pa_cons pe_int pa_nil))) pa_nil)) (pg_name (i := 2) sc_law.nd rfl (Or.inl rfl)) (pss_one (ps_if (pt_not (pt_val (pe_call G_law_question (hr.mono (by decide)) rfl T.g__law_question T.k__law_question T.bd__law_question .nil pass0 (pa_cons (pe_call G_law_pick (hr.mono (by decide)) rfl T.g__law_pick T.k__law_pick T.bd__law_pick .nil pass0 (pa_cons (pv 1) (pa_cons pe_int pa_nil))) pa_nil)))) (pss_one (ps_ret pe_bl)) pss_nil)))
      (pss_cons (ps_set (i := 3) sc_law.nd rfl (Or.inl rfl) (pe_call G_law_pick (hr.mono (by decide)) rfl T.g__law_pick T.k__law_pick T.bd__law_pick .nil pass0 (pa_cons (pv 1) (pa_cons pe_int pa_nil))))
      (pss_cons (ps_for PassesOwn.never rfl (pi_range1 rfl T.b_range (pa_cons pe_int pa_nil)) (pg_name (i := 4) sc_law.nd rfl (Or.inl rfl)) (pss_one (ps_if (pt_not (pt_val (pe_call G_law_question (hr.mono (by decide)) rfl T.g__law_question T.k__law_question T.bd__law_question .nil pass0 (pa_cons (pe_op op_mod (pe_callTy call_int1 (by rfl) T.b_int (by decide +kernel) (pa_cons (pe_op op_add (pv 3) (pv 4)) pa_nil)) pe_int) pa_nil)))) (pss_one (ps_ret pe_bl)) pss_nil)))
      (pss_one (ps_ret pe_bl)))))), ?_⟩
    refine ⟨_, rfl, (by show 4 ≤ sizeLine; decide), fun st nst => ?_⟩
    have hs : ∀ H1 : Hp, Same H H1 → ∀ o, SqL K (upd H1 st o) sa (ns.map V.int) := fun H1 s1 o => (sUpd s1 nst).seq hS
    refine ⟨_, rfl, st, sa, ns, 0, 0, 0, 41, rfl, upd_same, hs _ (sUpd (Same.refl H) nst), by decide, by decide, by decide, fun v i' d' c' v0 v1 i0 => ⟨v, rfl, by omega, by omega, for_range (lo := 0) (n := v.toNat)
      (fun _ σ H1 => ∃ (x : Option V) (i d c : Int), σ = [some (.ref sa), some (.ref st), x, none, none] ∧ 0 ≤ i ∧ H1 st = some (.lst [.ref sa, .int i, .int d, .int c]) ∧ Same H H1) ⟨none, i', d', c', rfl, i0, upd_same, sUpd (sUpd (Same.refl H) nst) nst⟩ ?_ ?_⟩⟩
    · rintro n σ H1 hn ⟨x, i, d, c, rfl, i0, h1, s1⟩
      refine ⟨_, rfl, st, sa, ns, i, d, c, 74, rfl, h1, hs _ s1, by decide, by decide, i0, fun v i2 d2 c2 v0 v1 i20 => ⟨v, rfl, v0, v1, fun H2 s2 => ⟨_, rfl, iteF ?_⟩⟩⟩
      exact ⟨_, i2, d2, c2, rfl, i20, s2 _ _ upd_same, (sUpd s1 nst).trans s2⟩
    · rintro σ H1 ⟨x, i, d, c, rfl, i0, h1, s1⟩
      refine ⟨_, rfl, st, sa, ns, i, d, c, 74, rfl, h1, hs _ s1, by decide, by decide, i0, fun v i2 d2 c2 v0 v1 i20 => ?_⟩
      refine ⟨74, rfl, by decide, by decide, for_range (lo := 0) (n := 74) (fun _ σ _ => ∃ x y, σ = [some (.ref sa), some (.ref st), x, some (.int v), y]) ⟨x, none, rfl⟩ ?_ ?_⟩
      · rintro n σ H2 hn ⟨x, y, rfl⟩
        refine ⟨_, rfl, _, rfl, _, _, rfl, rfl, .inl ⟨_, rfl, _, _, rfl, rfl, (by show (0 : Int) < 74; decide), _, rfl, Int.emod_nonneg _ (by decide), Int.emod_lt_of_pos _ (by decide), fun H3 s3 => ⟨_, rfl, iteF ?_⟩⟩⟩
        exact ⟨_, _, rfl⟩
      · rintro σ H2 ⟨x, y, rfl⟩
        exact q _
end
theorem all_mk {l : PySem.W.OpenLaw} {w : World} {K : PySem.W.Frag} {h : Heap} {mg : Str → Option Value} {fa : Addr} (X : K.In h) (G : h.Ns mainGlobals mg) (hfa : mg "law" = some (.ref fa))
    {f_unary_kind : Addr} {oc_unary_kind : Value} {od_unary_kind an_unary_kind : Option Addr} {sl_unary_kind : Array (Option Value)} {kV_unary_kind dc_unary_kind pm_unary_kind cd_unary_kind ct_unary_kind : Value}
    (a_unary_kind : PySem.W.nsIn K mainGlobals "unary_kind" = some (some (.ref f_unary_kind)))
    (l_unary_kind : K.lookup f_unary_kind = some ⟨oc_unary_kind, od_unary_kind, .func (PySem.W.fnOf "unary_kind" "unary_kind" (defArgs s_unary_kind) (defBody s_unary_kind) (defScope s_unary_kind) .none kV_unary_kind dc_unary_kind pm_unary_kind an_unary_kind cd_unary_kind ct_unary_kind), sl_unary_kind⟩)
    (c_unary_kind : PySem.W.codeIn K cd_unary_kind "unary_kind" = true)
    (k_unary_kind : PySem.W.keepIn K (.ref f_unary_kind) = true)
    {f_binary_kind : Addr} {oc_binary_kind : Value} {od_binary_kind an_binary_kind : Option Addr} {sl_binary_kind : Array (Option Value)} {kV_binary_kind dc_binary_kind pm_binary_kind cd_binary_kind ct_binary_kind : Value}
    (a_binary_kind : PySem.W.nsIn K mainGlobals "binary_kind" = some (some (.ref f_binary_kind)))
    (l_binary_kind : K.lookup f_binary_kind = some ⟨oc_binary_kind, od_binary_kind, .func (PySem.W.fnOf "binary_kind" "binary_kind" (defArgs s_binary_kind) (defBody s_binary_kind) (defScope s_binary_kind) .none kV_binary_kind dc_binary_kind pm_binary_kind an_binary_kind cd_binary_kind ct_binary_kind), sl_binary_kind⟩)
    (c_binary_kind : PySem.W.codeIn K cd_binary_kind "binary_kind" = true)
    (k_binary_kind : PySem.W.keepIn K (.ref f_binary_kind) = true)
    {f_law_pick : Addr} {oc_law_pick : Value} {od_law_pick an_law_pick : Option Addr} {sl_law_pick : Array (Option Value)} {kV_law_pick dc_law_pick pm_law_pick cd_law_pick ct_law_pick : Value}
    (a_law_pick : PySem.W.nsIn K mainGlobals "_law_pick" = some (some (.ref f_law_pick)))
    (l_law_pick : K.lookup f_law_pick = some ⟨oc_law_pick, od_law_pick, .func (PySem.W.fnOf "_law_pick" "_law_pick" (defArgs s_law_pick) (defBody s_law_pick) (defScope s_law_pick) .none kV_law_pick dc_law_pick pm_law_pick an_law_pick cd_law_pick ct_law_pick), sl_law_pick⟩)
    (c_law_pick : PySem.W.codeIn K cd_law_pick "_law_pick" = true)
    (k_law_pick : PySem.W.keepIn K (.ref f_law_pick) = true)
    {f_law_unary : Addr} {oc_law_unary : Value} {od_law_unary an_law_unary : Option Addr} {sl_law_unary : Array (Option Value)} {kV_law_unary dc_law_unary pm_law_unary cd_law_unary ct_law_unary : Value}
    (a_law_unary : PySem.W.nsIn K mainGlobals "_law_unary" = some (some (.ref f_law_unary)))
    (l_law_unary : K.lookup f_law_unary = some ⟨oc_law_unary, od_law_unary, .func (PySem.W.fnOf "_law_unary" "_law_unary" (defArgs s_law_unary) (defBody s_law_unary) (defScope s_law_unary) .none kV_law_unary dc_law_unary pm_law_unary an_law_unary cd_law_unary ct_law_unary), sl_law_unary⟩)
    (c_law_unary : PySem.W.codeIn K cd_law_unary "_law_unary" = true)
    (k_law_unary : PySem.W.keepIn K (.ref f_law_unary) = true)
    {f_law_binary : Addr} {oc_law_binary : Value} {od_law_binary an_law_binary : Option Addr} {sl_law_binary : Array (Option Value)} {kV_law_binary dc_law_binary pm_law_binary cd_law_binary ct_law_binary : Value}
    (a_law_binary : PySem.W.nsIn K mainGlobals "_law_binary" = some (some (.ref f_law_binary)))
    (l_law_binary : K.lookup f_law_binary = some ⟨oc_law_binary, od_law_binary, .func (PySem.W.fnOf "_law_binary" "_law_binary" (defArgs s_law_binary) (defBody s_law_binary) (defScope s_law_binary) .none kV_law_binary dc_law_binary pm_law_binary an_law_binary cd_law_binary ct_law_binary), sl_law_binary⟩)
    (c_law_binary : PySem.W.codeIn K cd_law_binary "_law_binary" = true)
    (k_law_binary : PySem.W.keepIn K (.ref f_law_binary) = true)
    {f_law_right : Addr} {oc_law_right : Value} {od_law_right an_law_right : Option Addr} {sl_law_right : Array (Option Value)} {kV_law_right dc_law_right pm_law_right cd_law_right ct_law_right : Value}
    (a_law_right : PySem.W.nsIn K mainGlobals "_law_right" = some (some (.ref f_law_right)))
    (l_law_right : K.lookup f_law_right = some ⟨oc_law_right, od_law_right, .func (PySem.W.fnOf "_law_right" "_law_right" (defArgs s_law_right) (defBody s_law_right) (defScope s_law_right) .none kV_law_right dc_law_right pm_law_right an_law_right cd_law_right ct_law_right), sl_law_right⟩)
    (c_law_right : PySem.W.codeIn K cd_law_right "_law_right" = true)
    (k_law_right : PySem.W.keepIn K (.ref f_law_right) = true)
    {f_law_question : Addr} {oc_law_question : Value} {od_law_question an_law_question : Option Addr} {sl_law_question : Array (Option Value)} {kV_law_question dc_law_question pm_law_question cd_law_question ct_law_question : Value}
    (a_law_question : PySem.W.nsIn K mainGlobals "_law_question" = some (some (.ref f_law_question)))
    (l_law_question : K.lookup f_law_question = some ⟨oc_law_question, od_law_question, .func (PySem.W.fnOf "_law_question" "_law_question" (defArgs s_law_question) (defBody s_law_question) (defScope s_law_question) .none kV_law_question dc_law_question pm_law_question an_law_question cd_law_question ct_law_question), sl_law_question⟩)
    (c_law_question : PySem.W.codeIn K cd_law_question "_law_question" = true)
    (k_law_question : PySem.W.keepIn K (.ref f_law_question) = true)
    {f_law : Addr} {oc_law : Value} {od_law an_law : Option Addr} {sl_law : Array (Option Value)} {kV_law dc_law pm_law cd_law ct_law : Value}
    (a_law : PySem.W.nsIn K mainGlobals "law" = some (some (.ref f_law)))
    (l_law : K.lookup f_law = some ⟨oc_law, od_law, .func (PySem.W.fnOf "law" "law" (defArgs s_law) (defBody s_law) (defScope s_law) .none kV_law dc_law pm_law an_law cd_law ct_law), sl_law⟩)
    (c_law : PySem.W.codeIn K cd_law "law" = true)
    (k_law : PySem.W.keepIn K (.ref f_law) = true)
    {c_ARITHMETIC : Addr} {o_ARITHMETIC : Obj} (a_ARITHMETIC : PySem.W.nsIn K mainGlobals "ARITHMETIC" = some (some (.ref c_ARITHMETIC))) (l_ARITHMETIC : K.lookup c_ARITHMETIC = some o_ARITHMETIC) (q_ARITHMETIC : IsTupOf o_ARITHMETIC [.str "+", .str "-", .str "*", .str "/", .str "mod", .str "rem"])
    {t_BOOLEAN : Tok} (a_BOOLEAN : PySem.W.nsIn K mainGlobals "BOOLEAN" = some (some (.str "boolean" t_BOOLEAN)))
    {c_EQUALITY : Addr} {o_EQUALITY : Obj} (a_EQUALITY : PySem.W.nsIn K mainGlobals "EQUALITY" = some (some (.ref c_EQUALITY))) (l_EQUALITY : K.lookup c_EQUALITY = some o_EQUALITY) (q_EQUALITY : IsTupOf o_EQUALITY [.str "=", .str "/="])
    {t_INTEGER : Tok} (a_INTEGER : PySem.W.nsIn K mainGlobals "INTEGER" = some (some (.str "integer" t_INTEGER)))
    {c_ORDER : Addr} {o_ORDER : Obj} (a_ORDER : PySem.W.nsIn K mainGlobals "ORDER" = some (some (.ref c_ORDER))) (l_ORDER : K.lookup c_ORDER = some o_ORDER) (q_ORDER : IsTupOf o_ORDER [.str "<", .str "<=", .str ">", .str ">="])
    (z_int : PySem.W.nsIn K mainGlobals "int" = some none)
    (z_isinstance : PySem.W.nsIn K mainGlobals "isinstance" = some none)
    (z_len : PySem.W.nsIn K mainGlobals "len" = some none)
    (z_range : PySem.W.nsIn K mainGlobals "range" = some none)
    (z_str : PySem.W.nsIn K mainGlobals "str" = some none) :
    ∃ fd : FuncData, (∀ (s : Shared) (v : Value), BindsTo s fd ⟨[v], []⟩ [("script", v)]) ∧ ∀ base : Heap, K.In base → base.Ns mainGlobals mg → FnOk l.prog w K mg base CX0 3 fa fd ["script"] (spLaw K) := by
  have e := hfa.symm.trans (PySem.W.mg_of X G a_law)
  cases e
  let a : Ad := { f_unary_kind := f_unary_kind, d_unary_kind := PySem.W.fnOf "unary_kind" "unary_kind" (defArgs s_unary_kind) (defBody s_unary_kind) (defScope s_unary_kind) .none kV_unary_kind dc_unary_kind pm_unary_kind an_unary_kind cd_unary_kind ct_unary_kind, f_binary_kind := f_binary_kind, d_binary_kind := PySem.W.fnOf "binary_kind" "binary_kind" (defArgs s_binary_kind) (defBody s_binary_kind) (defScope s_binary_kind) .none kV_binary_kind dc_binary_kind pm_binary_kind an_binary_kind cd_binary_kind ct_binary_kind, f_law_pick := f_law_pick, d_law_pick := PySem.W.fnOf "_law_pick" "_law_pick" (defArgs s_law_pick) (defBody s_law_pick) (defScope s_law_pick) .none kV_law_pick dc_law_pick pm_law_pick an_law_pick cd_law_pick ct_law_pick, f_law_unary := f_law_unary, d_law_unary := PySem.W.fnOf "_law_unary" "_law_unary" (defArgs s_law_unary) (defBody s_law_unary) (defScope s_law_unary) .none kV_law_unary dc_law_unary pm_law_unary an_law_unary cd_law_unary ct_law_unary, f_law_binary := f_law_binary, d_law_binary := PySem.W.fnOf "_law_binary" "_law_binary" (defArgs s_law_binary) (defBody s_law_binary) (defScope s_law_binary) .none kV_law_binary dc_law_binary pm_law_binary an_law_binary cd_law_binary ct_law_binary, f_law_right := f_law_right, d_law_right := PySem.W.fnOf "_law_right" "_law_right" (defArgs s_law_right) (defBody s_law_right) (defScope s_law_right) .none kV_law_right dc_law_right pm_law_right an_law_right cd_law_right ct_law_right, f_law_question := f_law_question, d_law_question := PySem.W.fnOf "_law_question" "_law_question" (defArgs s_law_question) (defBody s_law_question) (defScope s_law_question) .none kV_law_question dc_law_question pm_law_question an_law_question cd_law_question ct_law_question, f_law := fa, d_law := PySem.W.fnOf "law" "law" (defArgs s_law) (defBody s_law) (defScope s_law) .none kV_law dc_law pm_law an_law cd_law ct_law, c_ARITHMETIC := c_ARITHMETIC, t_BOOLEAN := t_BOOLEAN, c_EQUALITY := c_EQUALITY, t_INTEGER := t_INTEGER, c_ORDER := c_ORDER }
  have T : Txt K mg a := {
    g_unary_kind := PySem.W.mg_of X G a_unary_kind,
    F_unary_kind := fun_mk (st := s_unary_kind) l_unary_kind c_unary_kind k_unary_kind,
    k_unary_kind := k_unary_kind,
    bd_unary_kind := (fun_mk (st := s_unary_kind) l_unary_kind c_unary_kind k_unary_kind).binds (ps := ["operator", "operand"]) fun _ _ _ _ _ _ us hl => match us, hl with | [_, _], _ => rfl,
    g_binary_kind := PySem.W.mg_of X G a_binary_kind,
    F_binary_kind := fun_mk (st := s_binary_kind) l_binary_kind c_binary_kind k_binary_kind,
    k_binary_kind := k_binary_kind,
    bd_binary_kind := (fun_mk (st := s_binary_kind) l_binary_kind c_binary_kind k_binary_kind).binds (ps := ["operator", "left", "right"]) fun _ _ _ _ _ _ us hl => match us, hl with | [_, _, _], _ => rfl,
    g__law_pick := PySem.W.mg_of X G a_law_pick,
    F__law_pick := fun_mk (st := s_law_pick) l_law_pick c_law_pick k_law_pick,
    k__law_pick := k_law_pick,
    bd__law_pick := (fun_mk (st := s_law_pick) l_law_pick c_law_pick k_law_pick).binds (ps := ["state", "limit"]) fun _ _ _ _ _ _ us hl => match us, hl with | [_, _], _ => rfl,
    g__law_unary := PySem.W.mg_of X G a_law_unary,
    F__law_unary := fun_mk (st := s_law_unary) l_law_unary c_law_unary k_law_unary,
    k__law_unary := k_law_unary,
    bd__law_unary := (fun_mk (st := s_law_unary) l_law_unary c_law_unary k_law_unary).binds (ps := ["operator", "operand"]) fun _ _ _ _ _ _ us hl => match us, hl with | [_, _], _ => rfl,
    g__law_binary := PySem.W.mg_of X G a_law_binary,
    F__law_binary := fun_mk (st := s_law_binary) l_law_binary c_law_binary k_law_binary,
    k__law_binary := k_law_binary,
    bd__law_binary := (fun_mk (st := s_law_binary) l_law_binary c_law_binary k_law_binary).binds (ps := ["operator", "left", "right"]) fun _ _ _ _ _ _ us hl => match us, hl with | [_, _, _], _ => rfl,
    g__law_right := PySem.W.mg_of X G a_law_right,
    F__law_right := fun_mk (st := s_law_right) l_law_right c_law_right k_law_right,
    k__law_right := k_law_right,
    bd__law_right := (fun_mk (st := s_law_right) l_law_right c_law_right k_law_right).binds (ps := ["actual", "due"]) fun _ _ _ _ _ _ us hl => match us, hl with | [_, _], _ => rfl,
    g__law_question := PySem.W.mg_of X G a_law_question,
    F__law_question := fun_mk (st := s_law_question) l_law_question c_law_question k_law_question,
    k__law_question := k_law_question,
    bd__law_question := (fun_mk (st := s_law_question) l_law_question c_law_question k_law_question).binds (ps := ["k"]) fun _ _ _ _ _ _ us hl => match us, hl with | [_], _ => rfl,
    g_law := PySem.W.mg_of X G a_law,
    F_law := fun_mk (st := s_law) l_law c_law k_law,
    k_law := k_law,
    bd_law := (fun_mk (st := s_law) l_law c_law k_law).binds (ps := ["script"]) fun _ _ _ _ _ _ us hl => match us, hl with | [_], _ => rfl,
    g_ARITHMETIC := PySem.W.mg_of X G a_ARITHMETIC,
    q_ARITHMETIC := fun H => sqT_of l_ARITHMETIC q_ARITHMETIC,
    g_BOOLEAN := PySem.W.mg_of X G a_BOOLEAN,
    g_EQUALITY := PySem.W.mg_of X G a_EQUALITY,
    q_EQUALITY := fun H => sqT_of l_EQUALITY q_EQUALITY,
    g_INTEGER := PySem.W.mg_of X G a_INTEGER,
    g_ORDER := PySem.W.mg_of X G a_ORDER,
    q_ORDER := fun H => sqT_of l_ORDER q_ORDER,
    b_int := PySem.W.mg_none_of X G z_int,
    b_isinstance := PySem.W.mg_none_of X G z_isinstance,
    b_len := PySem.W.mg_none_of X G z_len,
    b_range := PySem.W.mg_none_of X G z_range,
    b_str := PySem.W.mg_none_of X G z_str }
  exact ⟨a.d_law, fun s v => .of_eq rfl, fun base _ _ => ok_law T⟩
theorem walk {l : PySem.W.OpenLaw} {q : Program} {loose : List Str} {XP : (Str → Option Value) → Heap → Prop} {YP : World → Heap → Prop} {d : DefRec} {K : Params → PySem.W.Frag} (hn : l.most = some 63) (hdf : d.params.defaults = [])
    (hY : ∀ (w : World) (h : Heap), YP w h → (K w.params).In h)
    (F : ∀ (w : World) (mg : Str → Option Value) (fa : Addr) (h : Heap), (K w.params).In h → h.Ns mainGlobals mg → mg d.name = some (.ref fa) →
      ∃ fd : FuncData, (∀ (s : Shared) (u : Value), BindsTo s fd ⟨[u], []⟩ [("script", u)]) ∧ ∀ base : Heap, (K w.params).In base → base.Ns mainGlobals mg → FnOk l.prog w (K w.params) mg base CX0 3 fa fd ["script"] (spLaw (K w.params))) :
    PySem.W.WalkO q loose XP YP l.row.toRowW d [] (fun f vs => PySem.call f vs) :=
  L2.walk_of (n := 63) (k := 3) (x := "script") (CX := fun _ => CX0) (sp := fun w => spLaw (K w.params)) hn (by decide) hdf ⟨rfl, by decide, by decide⟩ hY F (fun _ _ a ns hl _ hS => ⟨a, ns, rfl, hS, hl, fun _ => rfl⟩) fun _ _ _ _ _ z => z

end My
open PySem PySem.W PyProof.Rows
set_option maxRecDepth 100000 in
set_option maxHeartbeats 0 in
theorem PySem.Challenge.cw_windowada_k10_kinds_of_operators_holds : PySem.Challenge.rw_windowada_k10_kinds_of_operators.Holds := by
  w_on; o_law; k_head; (case hw => w_witness2)
  k_fill
  refine My.walk (l := PySem.Challenge.rw_windowada_k10_kinds_of_operators) rfl rfl (fun w h Y => PySem.W.kIn_of Y) ?F
  case F =>
    intro w mg fa h KX G hmg
    refine' My.all_mk KX G hmg ?a_unary_kind ?l_unary_kind ?c_unary_kind ?k_unary_kind ?a_binary_kind ?l_binary_kind ?c_binary_kind ?k_binary_kind ?a_law_pick ?l_law_pick ?c_law_pick ?k_law_pick ?a_law_unary ?l_law_unary ?c_law_unary ?k_law_unary ?a_law_binary ?l_law_binary ?c_law_binary ?k_law_binary ?a_law_right ?l_law_right ?c_law_right ?k_law_right ?a_law_question ?l_law_question ?c_law_question ?k_law_question ?a_law ?l_law ?c_law ?k_law ?a_ARITHMETIC ?l_ARITHMETIC ?q_ARITHMETIC ?a_BOOLEAN ?a_EQUALITY ?l_EQUALITY ?q_EQUALITY ?a_INTEGER ?a_ORDER ?l_ORDER ?q_ORDER ?z_int ?z_isinstance ?z_len ?z_range ?z_str
    (case a_unary_kind => k_is)
    (case l_unary_kind => k_is)
    (case c_unary_kind => k_is)
    (case k_unary_kind => k_is)
    (case a_binary_kind => k_is)
    (case l_binary_kind => k_is)
    (case c_binary_kind => k_is)
    (case k_binary_kind => k_is)
    (case a_law_pick => k_is)
    (case l_law_pick => k_is)
    (case c_law_pick => k_is)
    (case k_law_pick => k_is)
    (case a_law_unary => k_is)
    (case l_law_unary => k_is)
    (case c_law_unary => k_is)
    (case k_law_unary => k_is)
    (case a_law_binary => k_is)
    (case l_law_binary => k_is)
    (case c_law_binary => k_is)
    (case k_law_binary => k_is)
    (case a_law_right => k_is)
    (case l_law_right => k_is)
    (case c_law_right => k_is)
    (case k_law_right => k_is)
    (case a_law_question => k_is)
    (case l_law_question => k_is)
    (case c_law_question => k_is)
    (case k_law_question => k_is)
    (case a_law => k_is)
    (case l_law => k_is)
    (case c_law => k_is)
    (case k_law => k_is)
    (case a_ARITHMETIC => k_is)
    (case l_ARITHMETIC => k_is)
    (case q_ARITHMETIC => refine ⟨rfl, _, _, rfl, by decide, ?_⟩; repeat (first | exact .nil | refine .cons ⟨_, rfl⟩ ?_))
    (case a_BOOLEAN => k_is)
    (case a_EQUALITY => k_is)
    (case l_EQUALITY => k_is)
    (case q_EQUALITY => refine ⟨rfl, _, _, rfl, by decide, ?_⟩; repeat (first | exact .nil | refine .cons ⟨_, rfl⟩ ?_))
    (case a_INTEGER => k_is)
    (case a_ORDER => k_is)
    (case l_ORDER => k_is)
    (case q_ORDER => refine ⟨rfl, _, _, rfl, by decide, ?_⟩; repeat (first | exact .nil | refine .cons ⟨_, rfl⟩ ?_))
    (case z_int => k_is)
    (case z_isinstance => k_is)
    (case z_len => k_is)
    (case z_range => k_is)
    (case z_str => k_is)

