import PyProof.Rows.All
import Wide.All
import OpenK.AllK
import Wide.FinOn
import HandS.ForMost
import HandS.ForExc
import HandS.Wide
import HandS.IsInst
import HandS.ExcIs
import HandS.WordsExc
import HandS.Property
import HandS.More
import HandS.Codes
import HandS.TupMul
import HandS.Strs
import HandS.SetFor
import HandS.TryOnly
import HandS.Star
import KE.GoesZip
import KE.GoesEnum
import KE.KItemsList
import HandS.Conv
import HandS.WideBits
import HandS.Walk
import HandS.TupAny
import HandS.DictComp
import HandS.Deep
import HandS.Zip
import HandS.Style
import HandS.TryMany
import HandS.RaiseMore
import HandS.HotCalls
import HandS.CallLocal
import HandS.ExcCtx
import KE.KTryMore
import HandS.Hot
import KE.KStateDown
import HandS.Head0
import HandS.Head1
import HandS.Head2
import PySem.Challenge.RW_windowada_k30_regions_take_exceptions
set_option Elab.async false
set_option maxRecDepth 100000
set_option maxHeartbeats 4000000
set_option linter.all false
section
namespace HeadMy
open PySem PySem.W PySem.Calls PyProof.Rows
set_option maxHeartbeats 0
def n0 : List PySem.Str := ["_wall", "AdaError", "MIN", "MAX", "Overflow", "DivisionByZero", "fits", "arithmetic", "negate", "absolute", "compare", "_word", "_result", "_quotient", "SIGNS", "compute", "Unit", "Module", "region_of", "NORMAL", "EXHAUSTED", "FAULT", "CONSTRAINT", "STORAGE", "END", "DEPTH_LIMIT", "NoInput", "OutOfFuel", "Events", "Fuel"]
def n1 : List PySem.Str := ["Layout", "plain_layout", "Activation", "Machine", "_do_tick", "_do_move", "_do_sign", "_do_arithmetic", "_do_compare", "_do_check", "_do_load", "_do_store", "_do_jump", "_do_branch", "_do_call", "_do_return", "_do_raise", "_do_again", "_do_put", "_do_get", "ACTIONS", "run_module", "_law_start", "_law_take", "_law_place", "_law_region", "_law_shape", "_law_raising", "_law_unit", "_law_taken"]
def n2 : List PySem.Str := ["_law_rows", "_law_walk", "_law_alike"]
def names : List PySem.Str := n0 ++ n1 ++ n2
theorem head_mine {r : OpenRow} {q : Program} {M : Nat} {loose : List PySem.Str} {d : DefRec} {kwd : List (PySem.Str × PySem.Expr)} {K : Params → Frag} {as : List Addr} {ek : ∀ P, as = (K P).map (·.1)} (H : Hook) (hH : H = kHook K as ek)
    (run : ∀ w, HandSHeadRun.RunEq r q (kHook K as ek) (fun s => as.map (HandSHeadRun.getT s)) M loose w)
    (e : opening r.prog = plainProg r.prog.main.scope.names) (f : ∀ s, fenceModules? r.prog s = some s)
    (hdef : defOf q r.name = some (d, kwd)) (hp : r.prog.theDef r.name = some (d.params, d.body, d.scope)) (hk : kwWritten? d.params.kwonlyargs d.params.kw_defaults = some kwd)
    (hwr : (!r.writes || r.records.isEmpty) = true) (k1 : r.wellSaid = true) (ok : (chainsOk q && opensWell r.prog && (frees r.toRowW && r.within.isEmpty)) = true) (hb : r.prog.bare) (hw : r.toRowW.promised)
    (call : WalkO q loose (XL q []) H.says r.toRowW d kwd fun f vs => PySem.call f vs) : r.Holds := by
  subst hH
  exact HandSHeadRun.head_any (H := kHook K as ek) (ob := fun s => as.map (HandSHeadRun.getT s)) (fun s => List.map_congr_left fun a _ => HandSHeadRun.getT_eq s a) e f run hdef hp hk hwr k1 ok hb hw call
end HeadMy
open PySem PySem.W PySem.Calls PyProof.Rows
set_option maxRecDepth 100000
section
local macro_rules | `(tactic| o_head $H) => `(tactic| exact (fun (_ : PySem.W.Hook) => (by assumption)) $H)
theorem HeadMy.pre (hh : (PySem.W.OpenLaw.row PySem.Challenge.rw_windowada_k30_regions_take_exceptions).Holds) : (PySem.W.OpenLaw.row PySem.Challenge.rw_windowada_k30_regions_take_exceptions).Holds := by k_head
end
noncomputable def HeadMy.as0 : List Addr := (HeadMy.pre.heap_1 (aWorld 1).params).map (·.1)
def HeadMy.beqL : List Nat → List Nat → Bool
  | [], [] => true
  | x :: xs, y :: ys => Nat.beq x y && HeadMy.beqL xs ys
  | _, _ => false
theorem HeadMy.beqL_ok : ∀ {l m : List Nat}, HeadMy.beqL l m = true → l = m
  | [], [], _ => rfl
  | x :: xs, y :: ys, h => by
    have h : (Nat.beq x y && HeadMy.beqL xs ys) = true := h
    rw [Bool.and_eq_true] at h
    rw [Nat.eq_of_beq_eq_true h.1, HeadMy.beqL_ok h.2]
  | [], _ :: _, h => by cases h
  | _ :: _, [], h => by cases h
theorem HeadMy.ek1 (P : Params) : HeadMy.beqL HeadMy.as0 ((HeadMy.pre.heap_1 P).map (·.1)) = true := by kernel_rfl
theorem HeadMy.ek0 : ∀ P, HeadMy.as0 = (HeadMy.pre.heap_1 P).map (·.1) := fun P => HeadMy.beqL_ok (HeadMy.ek1 P)
theorem HeadMy.run_false : ∀ w : World, HandSHeadRun.RunEq (PySem.W.OpenLaw.row PySem.Challenge.rw_windowada_k30_regions_take_exceptions) (PySem.W.view (PySem.W.OpenLaw.row PySem.Challenge.rw_windowada_k30_regions_take_exceptions).prog [71]) (kHook HeadMy.pre.heap_1 HeadMy.as0 HeadMy.ek0) (fun s => HeadMy.as0.map (HandSHeadRun.getT s)) 9000 HeadMy.names (w.withFollow "special-get-raises" false) := by
  intro w os; kernel_rfl
theorem HeadMy.run_true : ∀ w : World, HandSHeadRun.RunEq (PySem.W.OpenLaw.row PySem.Challenge.rw_windowada_k30_regions_take_exceptions) (PySem.W.view (PySem.W.OpenLaw.row PySem.Challenge.rw_windowada_k30_regions_take_exceptions).prog [71]) (kHook HeadMy.pre.heap_1 HeadMy.as0 HeadMy.ek0) (fun s => HeadMy.as0.map (HandSHeadRun.getT s)) 9000 HeadMy.names (w.withFollow "special-get-raises" true) := by
  intro w os; kernel_rfl
end
namespace My
open PySem L2
/-! ### helpers -/
def IsTupOf (o : Obj) (xs : List V) : Prop := o.cls = .type "tuple" ∧ ∃ (its : Array Value) (n : Nat), o.data = .seq its n ∧ its.size ≤ sizeLine ∧ Vals xs its.toList
theorem sqT_of {K : PySem.W.Frag} {H : Hp} {a : Addr} {o : Obj} {xs : List V} (h : K.lookup a = some o) (q : IsTupOf o xs) : SqT K H a xs := by
  obtain ⟨c, its, n, d, z, r⟩ := q
  exact .inr ⟨o, its, n, h, c, d, z, r⟩
theorem upd_self {H : Hp} {a : Addr} {o : HO} (h : H a = some o) : upd H a o = H := by
  funext b
  unfold upd
  split
  · rename_i e; rw [e, h]
  · rfl
theorem exm_of {K : PySem.W.Frag} {S C : Addr} (h1 : PySem.W.subIn K (.ref C) (.type "BaseException") = some true) (h2 : PySem.W.isClsIn K C = true) (h3 : PySem.W.typeIn K (.ref C) = some (.type "type")) {b : Bool} (h4 : PySem.W.subIn K (.ref S) (.ref C) = some b) :
    PySem.W.exmOne K (.ref S) (.ref C) = some b := by
  have e1 : (PySem.W.subIn K (.ref C) (.type "BaseException") == some true) = true := by rw [h1] <;> rfl
  have e2 : ((PySem.W.clsIn K C).isSome && PySem.W.typeIn K (.ref C) == some (.type "type")) = true := by
    have h2' : (PySem.W.clsIn K C).isSome = true := h2
    rw [h2', h3] <;> rfl
  show (if (PySem.W.subIn K (.ref C) (.type "BaseException") == some true) = true then (if ((PySem.W.clsIn K C).isSome && PySem.W.typeIn K (.ref C) == some (.type "type")) = true then PySem.W.subIn K (.ref S) (.ref C) else none) else none) = some b
  rw [if_pos e1, if_pos e2]
  exact h4
theorem sN {H H1 : Hp} {p : Addr} {o : HO} (s : Same H H1) (n : H1 p = none) : Same H (upd H1 p o) := fun b u e => by
  rw [upd_ne (ne_of_none (s b u e) n)]
  exact s b u e
theorem seqT {K : PySem.W.Frag} {H H' : Hp} {a : Addr} {xs : List V} (e : Same H H') (h : SqT K H a xs) : SqT K H' a xs := by
  rcases h with (h | ⟨o, h⟩) | h
  · exact .inl (.inl (e _ _ h))
  · exact .inl (.inr ⟨o, e _ _ h⟩)
  · exact .inr h
theorem ite3 {b : Bool} {A B : Prop} (h1 : b = true → A) (h2 : b = false → B) : if b = true then A else B := by
  cases b with
  | true => exact iteT (h1 rfl)
  | false => exact iteF (h2 rfl)
section
variable {X : Cx}
def rInS (K : PySem.W.Frag) : R2 := fun x y H Q => ∃ p xs, y = .ref p ∧ (SqL K H p xs ∨ SqT K H p xs) ∧ flatV x = true ∧ xs.all flatV = true ∧ Q (.bl (inV x xs)) H
def rNotInS (K : PySem.W.Frag) : R2 := fun x y H Q => ∃ p xs, y = .ref p ∧ (SqL K H p xs ∨ SqT K H p xs) ∧ flatV x = true ∧ xs.all flatV = true ∧ Q (.bl (!inV x xs)) H
theorem op_inS : OpR X (compareOp .In) (rInS X.K) := fun pins s σ H x y v u Q I rx ry h => op_in_seq pins s σ H x y v u Q I rx ry h
theorem op_notInS : OpR X (compareOp .NotIn) (rNotInS X.K) := fun pins s σ H x y v u Q I rx ry h => op_notIn_seq pins s σ H x y v u Q I rx ry h
end
theorem at0 {v : V} {r : List V} : atI (v :: r) 0 = some v := atI_nat (j := 0) rfl
theorem sUpd {H H1 : Hp} {p : Addr} {o : HO} (s : Same H H1) (n : H p = none) : Same H (upd H1 p o) := fun b u e => by
  rw [upd_ne (ne_of_none e n)]
  exact s b u e
/-! ### match over a value -/
structure PMC (X : Cx) (cases : List MatchCase) (t : V → TS) : Prop where
  run : ∀ (first : Bool) (pins : List (Addr × Obj)) (s : Shared) (σ : St) (H : Hp) (D : Ends) (x : V) (v : Value), Inv X pins σ H s → RelV x v → t x D σ H → wpAny (model X.prog X.w) X.A (matchCases cases X.env v first) (SP X pins D) X.xe s
def mNil : V → TS := fun _ D σ H => D.nx σ H
def mStr (z : Str) (t : TS) (u : V → TS) : V → TS := fun x D σ H => scal x (.str z) = true ∧ if decide (x = .str z) = true then t D σ H else u x D σ H
def tMatch (te : TE) (t : V → TS) : TS := fun D σ H => te σ H fun x H1 => t x D σ H1
section
variable {X : Cx}
theorem pmc_nil : PMC X [] mNil := ⟨fun _ _ _ σ H D x v I _ h => wpAny_matchCases_nil ⟨σ, H, I, h⟩⟩
theorem pmc_str {z : Str} {j : Nat} {p p2 : Pos} {body : List Stmt} {rest : List MatchCase} {t : TS} {u : V → TS} (hb : PSs X body t) (hr : PMC X rest u) : PMC X (⟨.MatchValue (.Constant (.str z) j p) p2, none, body⟩ :: rest) (mStr z t u) := by
  refine ⟨fun first pins s σ H D x v I r h => ?_⟩
  obtain ⟨hs, h⟩ := h
  refine wpAny_matchCases_cons (wpAny_matchPattern_Value ?_)
  have hz : PE X (.Constant (.str z) j p) (tC (.str z)) := pe_str
  refine thn (hz.run pins s σ H (fun y H1 => y = .str z ∧ H1 = H) I ⟨rfl, rfl⟩) fun w s1 ⟨y, H1, I1, r1, e1, e2⟩ => ?_
  subst e1; subst e2
  refine thn (op_eq pins s1 σ H1 x (.str z) v w (fun y H2 => y = .bl (decide (x = .str z)) ∧ H2 = H1) I1 r r1 ⟨hs, rfl, rfl⟩) fun c s2 ⟨y, H2, I2, r2, e1, e2⟩ => ?_
  subst e1; subst e2
  cases r2
  refine wpAny_truthy_bool ?_
  cases e : decide (x = V.str z) with
  | true =>
    rw [e] at h
    refine wpAny_assignInOrder_none ?_
    exact hb.run pins s2 σ H2 D I2 (by simpa using h)
  | false =>
    rw [e] at h
    exact hr.run false pins s2 σ H2 D x v I2 r (by simpa using h)
theorem ps_match {e : Expr} {cs : List MatchCase} {pos : Pos} {te : TE} {t : V → TS} (he : PE X e te) (hc : PMC X cs t) : PS X (.Match e cs pos) (tMatch te t) := by
  refine ⟨fun pins s σ H D I h => ?_⟩
  exact wpAny_Match (thn (he.run pins s σ H _ I h) fun v s1 ⟨x, H1, I1, r1, q1⟩ => hc.run true pins s1 σ H1 D x v I1 r1 q1)
/-- isinstance(e, c) in a suite, whatever the caught class is -/
def rIsEx (K : PySem.W.Frag) (a : Addr) (cls : Value) (d : Option Addr) : List V → Hp → VK → Prop := fun xs H Q => ∃ D, cls = .ref D ∧ d = none ∧ ExcC K D ∧ rIsE K D a xs H Q
theorem call_isEx {a : Addr} {cls : Value} {d : Option Addr} {oe : Obj} {pn : List (Addr × Obj)} (hz : Zc cls d oe) (hf : ∃ vs, oe.data = .fields vs) : CallR (X.suite a ((a, oe) :: pn)) (.builtin "isinstance") (rIsEx X.K a cls d) := by
  intro pins s σ H xs us Q I r h
  obtain ⟨D, rfl, rfl, C, h⟩ := h
  exact call_isE C hz hf pins s σ H xs us Q I r h
end
theorem kit_self {K : PySem.W.Frag} {D : Addr} : PySem.W.kitOne K (.ref D) (.ref D) = some true := by
  unfold PySem.W.kitOne
  rw [if_pos (by simp)]
theorem kit_no {K : PySem.W.Frag} {D C : Addr} (h : PySem.W.subIn K (.ref D) (.ref C) = some false) (hs : PySem.W.subIn K (.ref C) (.ref C) = some true) (h2 : PySem.W.isClsIn K C = true) (h3 : PySem.W.typeIn K (.ref C) = some (.type "type")) :
    PySem.W.kitOne K (.ref D) (.ref C) = some false := by
  have ne : ¬ ((Value.ref D == Value.ref C) = true) := fun e => by
    have e' : D = C := by simpa using e
    subst e'
    rw [h] at hs
    exact nomatch hs
  have e2 : ((PySem.W.clsIn K C).isSome && PySem.W.typeIn K (.ref C) == some (.type "type")) = true := by
    have h2' : (PySem.W.clsIn K C).isSome = true := h2
    rw [h2', h3] <;> rfl
  unfold PySem.W.kitOne
  rw [if_neg ne]
  show (if ((PySem.W.clsIn K C).isSome && PySem.W.typeIn K (.ref C) == some (.type "type")) = true then PySem.W.subIn K (.ref D) (.ref C) else none) = some false
  rw [if_pos e2]
  exact h
theorem kit_sub {K : PySem.W.Frag} {D C : Addr} {b : Bool} (h : PySem.W.subIn K (.ref D) (.ref C) = some b) (hs : b = false → PySem.W.subIn K (.ref C) (.ref C) = some true) (h2 : PySem.W.isClsIn K C = true) (h3 : PySem.W.typeIn K (.ref C) = some (.type "type")) :
    PySem.W.kitOne K (.ref D) (.ref C) = some b := by
  cases b with
  | false => exact kit_no h (hs rfl) h2 h3
  | true =>
    have e2 : ((PySem.W.clsIn K C).isSome && PySem.W.typeIn K (.ref C) == some (.type "type")) = true := by
      have h2' : (PySem.W.clsIn K C).isSome = true := h2
      rw [h2', h3] <;> rfl
    unfold PySem.W.kitOne
    split
    · rfl
    · show (if ((PySem.W.clsIn K C).isSome && PySem.W.typeIn K (.ref C) == some (.type "type")) = true then PySem.W.subIn K (.ref D) (.ref C) else none) = some true
      rw [if_pos e2]
      exact h
theorem kit_bt {K : PySem.W.Frag} {D : Addr} {n : String} {b : Bool} (hm : PySem.W.kitMeta n = true) (h : PySem.W.subIn K (.ref D) (.type n) = some b) : PySem.W.kitOne K (.ref D) (.type n) = some b := by
  unfold PySem.W.kitOne
  rw [if_neg (by simp)]
  show (if PySem.W.kitMeta n = true then PySem.W.subIn K (.ref D) (.type n) else none) = some b
  rw [if_pos hm]
  exact h
/-! ### a method that may raise, called in a try -/
section
variable {X : Cx} {CX : CXT} {k : Nat} {f C : Addr} {fd : FuncData} {ps : List Str} {sp : Sp} {E : St → XK} {m : Str} {pos apos : Pos} {e o : Expr} {es : List Expr} {ta : TE} {t : TA}
def tMethE (C : Addr) (m : Str) (sp : Sp) (E : St → XK) (ta : TE) (t : TA) : TE := fun σ H Q => ta σ H fun x H1 => ∃ a dx fs, x = .ref a ∧ H1 a = some (.ins C dx fs) ∧ fs.lookup m = none ∧ t σ H1 fun vs H2 => sp (x :: vs) H2 Q (E σ)
theorem pe_methE0 {pl : Sem Bool} (he : PE X o ta) (c : Cls X.K C) (hm : Meth X.K C m f) (F : FnOk X.prog X.w X.K X.mg X.base CX k f fd ps sp) (hr : Room k X.A) (hb : Binds X.K fd ps []) (hx : ∀ σ, PassesAt CX X σ (E σ))
    (ht : eval (.Call (.Attribute o m apos) [] [] pos) X.env = (do
      let ov ← eval o X.env
      standAt apos.atName
      let (f, first) ← holding [ov] (getMethod ov m pl)
      callWith pos f first (backTo pos (starEach [] X.env)) (backToKw pos (keywordEach [] X.env))) := by rfl) :
    PE X (.Call (.Attribute o m apos) [] [] pos) (tMethE C m sp E ta tNil) := by
  refine ⟨fun pins s σ H Q I h => ?_⟩
  refine PySem.W.methodCall_KW (pl := pl) (thn (he.run pins s σ H _ I h) fun u s1 ⟨x, H1, I1, rx, a, dx, fs, ex, ea, l, q⟩ => ?_) ht
  subst ex
  obtain rfl : u = Value.ref a := rx
  refine getmeth_ok I1 ea c hm l ?_
  exact PySem.W.callWith_K0 (first := [.ref a]) I1.kIn hm.kp (run_fnS (us := [.ref a]) (vs := [.ref a]) F hr hb (hx σ) I1 (.cons rfl .nil) q)
theorem pe_methE {pl : Sem Bool} (he : PE X o ta) (c : Cls X.K C) (hm : Meth X.K C m f) (F : FnOk X.prog X.w X.K X.mg X.base CX k f fd ps sp) (hr : Room k X.A) (hb : Binds X.K fd ps []) (hx : ∀ σ, PassesAt CX X σ (E σ)) (ha : PA X (e :: es) t)
    (hst : starEach (e :: es) X.env = (false, eval e X.env) :: starEach es X.env := by rfl) (hpl : (backTo pos (starEach es X.env)).any (·.1) = false := by rfl)
    (ht : eval (.Call (.Attribute o m apos) (e :: es) [] pos) X.env = (do
      let ov ← eval o X.env
      standAt apos.atName
      let (f, first) ← holding [ov] (getMethod ov m pl)
      callWith pos f first (backTo pos (starEach (e :: es) X.env)) (backToKw pos (keywordEach [] X.env))) := by rfl) :
    PE X (.Call (.Attribute o m apos) (e :: es) [] pos) (tMethE C m sp E ta t) := by
  refine ⟨fun pins s σ H Q I h => ?_⟩
  refine PySem.W.methodCall_KW (pl := pl) (thn (he.run pins s σ H _ I h) fun u s1 ⟨x, H1, I1, rx, a, dx, fs, ex, ea, l, q⟩ => ?_) ht
  subst ex
  obtain rfl : u = Value.ref a := rx
  refine getmeth_ok I1 ea c hm l ?_
  refine PySem.W.callWith_K (first := [.ref a]) (h₀ := X.base) I.ok.mod.kin hm.kp (thn (ha.run pos pins s1 σ H1 _ I1 q) fun us s2 ⟨vs, H2, I2, r, q2⟩ => ⟨I2.kIn, ?_⟩) hst hpl
  exact run_fnS (us := .ref a :: us) (vs := .ref a :: vs) F hr hb (hx σ) I2 (.cons rfl r) q2
end
def spNever : Sp := fun _ _ _ _ => False
theorem tyx_tup {K : PySem.W.Frag} {H : Hp} {a : Addr} {xs : List V} (h : SqT K H a xs) : TyX K H (.ref a) (.type "tuple") := by
  rcases h with (h | ⟨o, h⟩) | ⟨o, its, n, hk, hc, _⟩
  · exact .base (.tup h)
  · exact .fTuple h
  · exact .kTuple hk hc

def top (i : Nat) : Stmt := PySem.Challenge.pw_windowada_k30_regions_take_exceptions.main.body.getD i (.Pass ⟨0, 0, 0, 0⟩)
abbrev s_wall : Stmt := top 0
abbrev s_fits : Stmt := top 8
abbrev s_arithmetic : Stmt := top 9
abbrev s_negate : Stmt := top 10
abbrev s_absolute : Stmt := top 11
abbrev s_compare : Stmt := top 12
abbrev s_word : Stmt := top 13
abbrev s_result : Stmt := top 14
abbrev s_quotient : Stmt := top 15
abbrev s_compute : Stmt := top 18
abbrev s_Unit___init__ : Stmt := inClass (top 20) 0
abbrev s_Module___init__ : Stmt := inClass (top 21) 0
abbrev s_region_of : Stmt := top 22
abbrev s_Events___init__ : Stmt := inClass (top 33) 0
abbrev s_Events_put : Stmt := inClass (top 33) 1
abbrev s_Events_get : Stmt := inClass (top 33) 2
abbrev s_Events_rows : Stmt := inClass (top 33) 3
abbrev s_Fuel___init__ : Stmt := inClass (top 34) 0
abbrev s_Fuel_tick : Stmt := inClass (top 34) 1
abbrev s_Fuel_remaining : Stmt := inClass (top 34) 2
abbrev s_Layout___init__ : Stmt := inClass (top 36) 0
abbrev s_plain_layout : Stmt := top 37
abbrev s_Activation___init__ : Stmt := inClass (top 38) 0
abbrev s_Activation_value : Stmt := inClass (top 38) 1
abbrev s_Activation_write : Stmt := inClass (top 38) 2
abbrev s_Activation_outward : Stmt := inClass (top 38) 3
abbrev s_Machine___init__ : Stmt := inClass (top 39) 0
abbrev s_Machine_activate : Stmt := inClass (top 39) 1
abbrev s_Machine_step : Stmt := inClass (top 39) 2
abbrev s_Machine_finish : Stmt := inClass (top 39) 3
abbrev s_Machine_raise_exception : Stmt := inClass (top 39) 4
abbrev s_do_tick : Stmt := top 40
abbrev s_do_move : Stmt := top 41
abbrev s_do_sign : Stmt := top 42
abbrev s_do_arithmetic : Stmt := top 43
abbrev s_do_compare : Stmt := top 44
abbrev s_do_check : Stmt := top 45
abbrev s_do_load : Stmt := top 46
abbrev s_do_store : Stmt := top 47
abbrev s_do_jump : Stmt := top 48
abbrev s_do_branch : Stmt := top 49
abbrev s_do_call : Stmt := top 50
abbrev s_do_return : Stmt := top 51
abbrev s_do_raise : Stmt := top 52
abbrev s_do_again : Stmt := top 53
abbrev s_do_put : Stmt := top 54
abbrev s_do_get : Stmt := top 55
abbrev s_run_module : Stmt := top 58
abbrev s_law_start : Stmt := top 60
abbrev s_law_take : Stmt := top 61
abbrev s_law_place : Stmt := top 62
abbrev s_law_region : Stmt := top 63
abbrev s_law_shape : Stmt := top 64
abbrev s_law_raising : Stmt := top 65
abbrev s_law_unit : Stmt := top 66
abbrev s_law_taken : Stmt := top 67
abbrev s_law_rows : Stmt := top 68
abbrev s_law_walk : Stmt := top 69
abbrev s_law_alike : Stmt := top 70
abbrev s_law : Stmt := top 71
theorem sc_wall : FnScope ["k"] ["k"] (defScope s_wall) := ⟨rfl, rfl, rfl, by decide +kernel, rfl, by decide +kernel, by decide +kernel⟩
theorem sc_fits : FnScope ["number"] ["number"] (defScope s_fits) := ⟨rfl, rfl, rfl, by decide +kernel, rfl, by decide +kernel, by decide +kernel⟩
theorem sc_arithmetic : FnScope ["op", "left", "right"] ["op", "left", "right"] (defScope s_arithmetic) := ⟨rfl, rfl, rfl, by decide +kernel, rfl, by decide +kernel, by decide +kernel⟩
theorem sc_negate : FnScope ["word"] ["word"] (defScope s_negate) := ⟨rfl, rfl, rfl, by decide +kernel, rfl, by decide +kernel, by decide +kernel⟩
theorem sc_absolute : FnScope ["word"] ["word"] (defScope s_absolute) := ⟨rfl, rfl, rfl, by decide +kernel, rfl, by decide +kernel, by decide +kernel⟩
theorem sc_compare : FnScope ["op", "left", "right"] ["op", "left", "right"] (defScope s_compare) := ⟨rfl, rfl, rfl, by decide +kernel, rfl, by decide +kernel, by decide +kernel⟩
theorem sc_word : FnScope ["number"] ["number"] (defScope s_word) := ⟨rfl, rfl, rfl, by decide +kernel, rfl, by decide +kernel, by decide +kernel⟩
theorem sc_result : FnScope ["op", "left", "right"] ["op", "left", "right"] (defScope s_result) := ⟨rfl, rfl, rfl, by decide +kernel, rfl, by decide +kernel, by decide +kernel⟩
theorem sc_quotient : FnScope ["left", "right", "quotient"] ["left", "right"] (defScope s_quotient) := ⟨rfl, rfl, rfl, by decide +kernel, rfl, by decide +kernel, by decide +kernel⟩
theorem sc_compute : FnScope ["name", "left", "right", "sign"] ["name", "left", "right"] (defScope s_compute) := ⟨rfl, rfl, rfl, by decide +kernel, rfl, by decide +kernel, by decide +kernel⟩
theorem sc_Unit___init__ : FnScope ["self", "parent", "arguments", "results", "registers", "cells", "code", "regions"] ["self", "parent", "arguments", "results", "registers", "cells", "code", "regions"] (defScope s_Unit___init__) := ⟨rfl, rfl, rfl, by decide +kernel, rfl, by decide +kernel, by decide +kernel⟩
theorem sc_Module___init__ : FnScope ["self", "units", "names", "places"] ["self", "units", "names", "places"] (defScope s_Module___init__) := ⟨rfl, rfl, rfl, by decide +kernel, rfl, by decide +kernel, by decide +kernel⟩
theorem sc_region_of : FnScope ["unit", "index", "region"] ["unit", "index"] (defScope s_region_of) := ⟨rfl, rfl, rfl, by decide +kernel, rfl, by decide +kernel, by decide +kernel⟩
theorem sc_Events___init__ : FnScope ["self", "inputs"] ["self", "inputs"] (defScope s_Events___init__) := ⟨rfl, rfl, rfl, by decide +kernel, rfl, by decide +kernel, by decide +kernel⟩
theorem sc_Events_put : FnScope ["self", "word"] ["self", "word"] (defScope s_Events_put) := ⟨rfl, rfl, rfl, by decide +kernel, rfl, by decide +kernel, by decide +kernel⟩
theorem sc_Events_get : FnScope ["self", "word"] ["self"] (defScope s_Events_get) := ⟨rfl, rfl, rfl, by decide +kernel, rfl, by decide +kernel, by decide +kernel⟩
theorem sc_Events_rows : FnScope ["self"] ["self"] (defScope s_Events_rows) := ⟨rfl, rfl, rfl, by decide +kernel, rfl, by decide +kernel, by decide +kernel⟩
theorem sc_Fuel___init__ : FnScope ["self", "units"] ["self", "units"] (defScope s_Fuel___init__) := ⟨rfl, rfl, rfl, by decide +kernel, rfl, by decide +kernel, by decide +kernel⟩
theorem sc_Fuel_tick : FnScope ["self"] ["self"] (defScope s_Fuel_tick) := ⟨rfl, rfl, rfl, by decide +kernel, rfl, by decide +kernel, by decide +kernel⟩
theorem sc_Fuel_remaining : FnScope ["self"] ["self"] (defScope s_Fuel_remaining) := ⟨rfl, rfl, rfl, by decide +kernel, rfl, by decide +kernel, by decide +kernel⟩
theorem sc_Layout___init__ : FnScope ["self", "where", "initial", "entrances", "cleared"] ["self", "where", "initial", "entrances", "cleared"] (defScope s_Layout___init__) := ⟨rfl, rfl, rfl, by decide +kernel, rfl, by decide +kernel, by decide +kernel⟩
theorem sc_plain_layout : FnScope ["unit", "numbers"] ["unit"] (defScope s_plain_layout) := ⟨rfl, rfl, rfl, by decide +kernel, rfl, by decide +kernel, by decide +kernel⟩
theorem sc_Activation___init__ : FnScope ["self", "number", "unit", "layout", "link", "caller"] ["self", "number", "unit", "layout", "link", "caller"] (defScope s_Activation___init__) := ⟨rfl, rfl, rfl, by decide +kernel, rfl, by decide +kernel, by decide +kernel⟩
theorem sc_Activation_value : FnScope ["self", "operand", "kind", "number"] ["self", "operand"] (defScope s_Activation_value) := ⟨rfl, rfl, rfl, by decide +kernel, rfl, by decide +kernel, by decide +kernel⟩
theorem sc_Activation_write : FnScope ["self", "number", "word"] ["self", "number", "word"] (defScope s_Activation_write) := ⟨rfl, rfl, rfl, by decide +kernel, rfl, by decide +kernel, by decide +kernel⟩
theorem sc_Activation_outward : FnScope ["self", "hops", "activation", "_"] ["self", "hops"] (defScope s_Activation_outward) := ⟨rfl, rfl, rfl, by decide +kernel, rfl, by decide +kernel, by decide +kernel⟩
theorem sc_Machine___init__ : FnScope ["self", "module", "layouts", "inputs", "fuel"] ["self", "module", "layouts", "inputs", "fuel"] (defScope s_Machine___init__) := ⟨rfl, rfl, rfl, by decide +kernel, rfl, by decide +kernel, by decide +kernel⟩
theorem sc_Machine_activate : FnScope ["self", "number", "link", "arguments", "layout", "activation", "at", "word"] ["self", "number", "link", "arguments"] (defScope s_Machine_activate) := ⟨rfl, rfl, rfl, by decide +kernel, rfl, by decide +kernel, by decide +kernel⟩
theorem sc_Machine_step : FnScope ["self", "activation", "instruction", "action"] ["self"] (defScope s_Machine_step) := ⟨rfl, rfl, rfl, by decide +kernel, rfl, by decide +kernel, by decide +kernel⟩
theorem sc_Machine_finish : FnScope ["self"] ["self"] (defScope s_Machine_finish) := ⟨rfl, rfl, rfl, by decide +kernel, rfl, by decide +kernel, by decide +kernel⟩
theorem sc_Machine_raise_exception : FnScope ["self", "number", "place", "activation", "region", "_", "number_register", "place_register", "line", "column"] ["self", "number", "place"] (defScope s_Machine_raise_exception) := ⟨rfl, rfl, rfl, by decide +kernel, rfl, by decide +kernel, by decide +kernel⟩
theorem sc_do_tick : FnScope ["machine", "_activation", "_instruction"] ["machine", "_activation", "_instruction"] (defScope s_do_tick) := ⟨rfl, rfl, rfl, by decide +kernel, rfl, by decide +kernel, by decide +kernel⟩
theorem sc_do_move : FnScope ["_machine", "activation", "instruction", "_", "target", "operand"] ["_machine", "activation", "instruction"] (defScope s_do_move) := ⟨rfl, rfl, rfl, by decide +kernel, rfl, by decide +kernel, by decide +kernel⟩
theorem sc_do_sign : FnScope ["machine", "activation", "instruction", "name", "target", "operand", "place", "word", "result"] ["machine", "activation", "instruction"] (defScope s_do_sign) := ⟨rfl, rfl, rfl, by decide +kernel, rfl, by decide +kernel, by decide +kernel⟩
theorem sc_do_arithmetic : FnScope ["machine", "activation", "instruction", "name", "target", "left", "right", "place", "result"] ["machine", "activation", "instruction"] (defScope s_do_arithmetic) := ⟨rfl, rfl, rfl, by decide +kernel, rfl, by decide +kernel, by decide +kernel⟩
theorem sc_do_compare : FnScope ["_machine", "activation", "instruction", "name", "target", "left", "right"] ["_machine", "activation", "instruction"] (defScope s_do_compare) := ⟨rfl, rfl, rfl, by decide +kernel, rfl, by decide +kernel, by decide +kernel⟩
theorem sc_do_check : FnScope ["machine", "activation", "instruction", "_", "operand", "low", "high", "place"] ["machine", "activation", "instruction"] (defScope s_do_check) := ⟨rfl, rfl, rfl, by decide +kernel, rfl, by decide +kernel, by decide +kernel⟩
theorem sc_do_load : FnScope ["machine", "activation", "instruction", "_", "target", "hops", "cell", "count", "operand", "offset"] ["machine", "activation", "instruction"] (defScope s_do_load) := ⟨rfl, rfl, rfl, by decide +kernel, rfl, by decide +kernel, by decide +kernel⟩
theorem sc_do_store : FnScope ["machine", "activation", "instruction", "_", "hops", "cell", "count", "operand", "source", "offset"] ["machine", "activation", "instruction"] (defScope s_do_store) := ⟨rfl, rfl, rfl, by decide +kernel, rfl, by decide +kernel, by decide +kernel⟩
theorem sc_do_jump : FnScope ["_machine", "activation", "instruction"] ["_machine", "activation", "instruction"] (defScope s_do_jump) := ⟨rfl, rfl, rfl, by decide +kernel, rfl, by decide +kernel, by decide +kernel⟩
theorem sc_do_branch : FnScope ["_machine", "activation", "instruction", "_", "operand", "target"] ["_machine", "activation", "instruction"] (defScope s_do_branch) := ⟨rfl, rfl, rfl, by decide +kernel, rfl, by decide +kernel, by decide +kernel⟩
theorem sc_do_call : FnScope ["machine", "activation", "instruction", "_", "number", "hops", "arguments", "place", "words", "argument"] ["machine", "activation", "instruction"] (defScope s_do_call) := ⟨rfl, rfl, rfl, by decide +kernel, rfl, by decide +kernel, by decide +kernel⟩
theorem sc_do_return : FnScope ["machine", "activation", "instruction", "words", "operand", "caller", "results", "target", "word"] ["machine", "activation", "instruction"] (defScope s_do_return) := ⟨rfl, rfl, rfl, by decide +kernel, rfl, by decide +kernel, by decide +kernel⟩
theorem sc_do_raise : FnScope ["machine", "_activation", "instruction", "_", "number", "place"] ["machine", "_activation", "instruction"] (defScope s_do_raise) := ⟨rfl, rfl, rfl, by decide +kernel, rfl, by decide +kernel, by decide +kernel⟩
theorem sc_do_again : FnScope ["machine", "activation", "instruction", "number", "place"] ["machine", "activation", "instruction"] (defScope s_do_again) := ⟨rfl, rfl, rfl, by decide +kernel, rfl, by decide +kernel, by decide +kernel⟩
theorem sc_do_put : FnScope ["machine", "activation", "instruction"] ["machine", "activation", "instruction"] (defScope s_do_put) := ⟨rfl, rfl, rfl, by decide +kernel, rfl, by decide +kernel, by decide +kernel⟩
theorem sc_do_get : FnScope ["machine", "activation", "instruction", "_", "target", "place", "word"] ["machine", "activation", "instruction"] (defScope s_do_get) := ⟨rfl, rfl, rfl, by decide +kernel, rfl, by decide +kernel, by decide +kernel⟩
theorem sc_run_module : FnScope ["module", "inputs", "fuel", "unit"] ["module", "inputs", "fuel"] (defScope s_run_module) := ⟨rfl, rfl, rfl, by decide +kernel, rfl, by decide +kernel, by decide +kernel⟩
theorem sc_law_start : FnScope ["script", "great", "seed", "cell", "state"] ["script"] (defScope s_law_start) := ⟨rfl, rfl, rfl, by decide +kernel, rfl, by decide +kernel, by decide +kernel⟩
theorem sc_law_take : FnScope ["state", "many", "digit", "mixed"] ["state", "many"] (defScope s_law_take) := ⟨rfl, rfl, rfl, by decide +kernel, rfl, by decide +kernel, by decide +kernel⟩
theorem sc_law_place : FnScope ["state"] ["state"] (defScope s_law_place) := ⟨rfl, rfl, rfl, by decide +kernel, rfl, by decide +kernel, by decide +kernel⟩
theorem sc_law_region : FnScope ["state", "shape", "entry", "k", "start", "stop"] ["state", "shape", "entry", "k"] (defScope s_law_region) := ⟨rfl, rfl, rfl, by decide +kernel, rfl, by decide +kernel, by decide +kernel⟩
theorem sc_law_shape : FnScope ["state", "last", "before", "shape", "size", "k", "order"] ["state", "last"] (defScope s_law_shape) := ⟨rfl, rfl, rfl, by decide +kernel, rfl, by decide +kernel, by decide +kernel⟩
theorem sc_law_raising : FnScope ["shape", "number"] ["shape", "number"] (defScope s_law_raising) := ⟨rfl, rfl, rfl, by decide +kernel, rfl, by decide +kernel, by decide +kernel⟩
theorem sc_law_unit : FnScope ["shape", "number", "code", "k", "region", "row"] ["shape", "number"] (defScope s_law_unit) := ⟨rfl, rfl, rfl, by decide +kernel, rfl, by decide +kernel, by decide +kernel⟩
theorem sc_law_taken : FnScope ["shape", "index", "region"] ["shape", "index"] (defScope s_law_taken) := ⟨rfl, rfl, rfl, by decide +kernel, rfl, by decide +kernel, by decide +kernel⟩
theorem sc_law_rows : FnScope ["shape", "raised", "index", "events", "registers", "k", "entered", "step", "region", "row"] ["shape", "raised", "index", "events"] (defScope s_law_rows) := ⟨rfl, rfl, rfl, by decide +kernel, rfl, by decide +kernel, by decide +kernel⟩
theorem sc_law_walk : FnScope ["shapes", "number", "events", "shape", "k", "raised"] ["shapes", "number", "events"] (defScope s_law_walk) := ⟨rfl, rfl, rfl, by decide +kernel, rfl, by decide +kernel, by decide +kernel⟩
theorem sc_law_alike : FnScope ["answer", "due", "k"] ["answer", "due"] (defScope s_law_alike) := ⟨rfl, rfl, rfl, by decide +kernel, rfl, by decide +kernel, by decide +kernel⟩
theorem sc_law : FnScope ["script", "state", "many", "shapes", "number", "units", "names", "places", "k", "events", "raised", "ending", "module", "due"] ["script"] (defScope s_law) := ⟨rfl, rfl, rfl, by decide +kernel, rfl, by decide +kernel, by decide +kernel⟩
def kw2_1 {α : Type} : List α → List α → List α
  | [x0, x1], [y0] => [x0, x1, y0]
  | _, _ => []
structure Ad where
  f_wall : Addr
  d_wall : FuncData
  f_fits : Addr
  d_fits : FuncData
  f_arithmetic : Addr
  d_arithmetic : FuncData
  f_negate : Addr
  d_negate : FuncData
  f_absolute : Addr
  d_absolute : FuncData
  f_compare : Addr
  d_compare : FuncData
  f_word : Addr
  d_word : FuncData
  f_result : Addr
  d_result : FuncData
  f_quotient : Addr
  d_quotient : FuncData
  f_compute : Addr
  d_compute : FuncData
  f_Unit___init__ : Addr
  d_Unit___init__ : FuncData
  f_Module___init__ : Addr
  d_Module___init__ : FuncData
  f_region_of : Addr
  d_region_of : FuncData
  f_Events___init__ : Addr
  d_Events___init__ : FuncData
  f_Events_put : Addr
  d_Events_put : FuncData
  f_Events_get : Addr
  d_Events_get : FuncData
  f_Events_rows : Addr
  d_Events_rows : FuncData
  p_Events_rows : Addr
  f_Fuel___init__ : Addr
  d_Fuel___init__ : FuncData
  f_Fuel_tick : Addr
  d_Fuel_tick : FuncData
  f_Fuel_remaining : Addr
  d_Fuel_remaining : FuncData
  p_Fuel_remaining : Addr
  f_Layout___init__ : Addr
  d_Layout___init__ : FuncData
  f_plain_layout : Addr
  d_plain_layout : FuncData
  f_Activation___init__ : Addr
  d_Activation___init__ : FuncData
  f_Activation_value : Addr
  d_Activation_value : FuncData
  f_Activation_write : Addr
  d_Activation_write : FuncData
  f_Activation_outward : Addr
  d_Activation_outward : FuncData
  f_Machine___init__ : Addr
  d_Machine___init__ : FuncData
  f_Machine_activate : Addr
  d_Machine_activate : FuncData
  f_Machine_step : Addr
  d_Machine_step : FuncData
  f_Machine_finish : Addr
  d_Machine_finish : FuncData
  f_Machine_raise_exception : Addr
  d_Machine_raise_exception : FuncData
  f_do_tick : Addr
  d_do_tick : FuncData
  f_do_move : Addr
  d_do_move : FuncData
  f_do_sign : Addr
  d_do_sign : FuncData
  f_do_arithmetic : Addr
  d_do_arithmetic : FuncData
  f_do_compare : Addr
  d_do_compare : FuncData
  f_do_check : Addr
  d_do_check : FuncData
  f_do_load : Addr
  d_do_load : FuncData
  f_do_store : Addr
  d_do_store : FuncData
  f_do_jump : Addr
  d_do_jump : FuncData
  f_do_branch : Addr
  d_do_branch : FuncData
  f_do_call : Addr
  d_do_call : FuncData
  f_do_return : Addr
  d_do_return : FuncData
  f_do_raise : Addr
  d_do_raise : FuncData
  f_do_again : Addr
  d_do_again : FuncData
  f_do_put : Addr
  d_do_put : FuncData
  f_do_get : Addr
  d_do_get : FuncData
  f_run_module : Addr
  d_run_module : FuncData
  f_law_start : Addr
  d_law_start : FuncData
  f_law_take : Addr
  d_law_take : FuncData
  f_law_place : Addr
  d_law_place : FuncData
  f_law_region : Addr
  d_law_region : FuncData
  f_law_shape : Addr
  d_law_shape : FuncData
  f_law_raising : Addr
  d_law_raising : FuncData
  f_law_unit : Addr
  d_law_unit : FuncData
  f_law_taken : Addr
  d_law_taken : FuncData
  f_law_rows : Addr
  d_law_rows : FuncData
  f_law_walk : Addr
  d_law_walk : FuncData
  f_law_alike : Addr
  d_law_alike : FuncData
  f_law : Addr
  d_law : FuncData
  c_ACTIONS : Addr
  t_CONSTRAINT : Tok
  t_DEPTH_LIMIT : Tok
  t_END : Tok
  c_EXHAUSTED : Addr
  c_FAULT : Addr
  t_MAX : Tok
  t_MIN : Tok
  c_NORMAL : Addr
  c_SIGNS : Addr
  t_STORAGE : Tok
  C_Unit : Addr
  C_Module : Addr
  C_AdaError : Addr
  C_Overflow : Addr
  C_DivisionByZero : Addr
  C_NoInput : Addr
  C_OutOfFuel : Addr
  C_Events : Addr
  C_Fuel : Addr
  C_Layout : Addr
  C_Activation : Addr
  C_Machine : Addr
structure Txt (w : World) (K : PySem.W.Frag) (mg : Str → Option Value) (a : Ad) : Prop where
  g__wall : mg "_wall" = some (.ref a.f_wall)
  F__wall : Fun K "_wall" "_wall" s_wall a.f_wall a.d_wall
  k__wall : PySem.W.keepIn K (.ref a.f_wall) = true
  bd__wall : Binds K a.d_wall ["k"] []
  g_fits : mg "fits" = some (.ref a.f_fits)
  F_fits : Fun K "fits" "fits" s_fits a.f_fits a.d_fits
  k_fits : PySem.W.keepIn K (.ref a.f_fits) = true
  bd_fits : Binds K a.d_fits ["number"] []
  g_arithmetic : mg "arithmetic" = some (.ref a.f_arithmetic)
  F_arithmetic : Fun K "arithmetic" "arithmetic" s_arithmetic a.f_arithmetic a.d_arithmetic
  k_arithmetic : PySem.W.keepIn K (.ref a.f_arithmetic) = true
  bd_arithmetic : Binds K a.d_arithmetic ["op", "left", "right"] []
  g_negate : mg "negate" = some (.ref a.f_negate)
  F_negate : Fun K "negate" "negate" s_negate a.f_negate a.d_negate
  k_negate : PySem.W.keepIn K (.ref a.f_negate) = true
  bd_negate : Binds K a.d_negate ["word"] []
  g_absolute : mg "absolute" = some (.ref a.f_absolute)
  F_absolute : Fun K "absolute" "absolute" s_absolute a.f_absolute a.d_absolute
  k_absolute : PySem.W.keepIn K (.ref a.f_absolute) = true
  bd_absolute : Binds K a.d_absolute ["word"] []
  g_compare : mg "compare" = some (.ref a.f_compare)
  F_compare : Fun K "compare" "compare" s_compare a.f_compare a.d_compare
  k_compare : PySem.W.keepIn K (.ref a.f_compare) = true
  bd_compare : Binds K a.d_compare ["op", "left", "right"] []
  g__word : mg "_word" = some (.ref a.f_word)
  F__word : Fun K "_word" "_word" s_word a.f_word a.d_word
  k__word : PySem.W.keepIn K (.ref a.f_word) = true
  bd__word : Binds K a.d_word ["number"] []
  g__result : mg "_result" = some (.ref a.f_result)
  F__result : Fun K "_result" "_result" s_result a.f_result a.d_result
  k__result : PySem.W.keepIn K (.ref a.f_result) = true
  bd__result : Binds K a.d_result ["op", "left", "right"] []
  g__quotient : mg "_quotient" = some (.ref a.f_quotient)
  F__quotient : Fun K "_quotient" "_quotient" s_quotient a.f_quotient a.d_quotient
  k__quotient : PySem.W.keepIn K (.ref a.f_quotient) = true
  bd__quotient : Binds K a.d_quotient ["left", "right"] []
  g_compute : mg "compute" = some (.ref a.f_compute)
  F_compute : Fun K "compute" "compute" s_compute a.f_compute a.d_compute
  k_compute : PySem.W.keepIn K (.ref a.f_compute) = true
  bd_compute : Binds K a.d_compute ["name", "left", "right"] []
  F_Unit___init__ : Fun K "__init__" "Unit.__init__" s_Unit___init__ a.f_Unit___init__ a.d_Unit___init__
  k_Unit___init__ : PySem.W.keepIn K (.ref a.f_Unit___init__) = true
  bd_Unit___init__ : Binds K a.d_Unit___init__ ["self", "parent", "arguments", "results", "registers", "cells", "code", "regions"] []
  F_Module___init__ : Fun K "__init__" "Module.__init__" s_Module___init__ a.f_Module___init__ a.d_Module___init__
  k_Module___init__ : PySem.W.keepIn K (.ref a.f_Module___init__) = true
  bd_Module___init__ : Binds K a.d_Module___init__ ["self", "units", "names", "places"] []
  g_region_of : mg "region_of" = some (.ref a.f_region_of)
  F_region_of : Fun K "region_of" "region_of" s_region_of a.f_region_of a.d_region_of
  k_region_of : PySem.W.keepIn K (.ref a.f_region_of) = true
  bd_region_of : Binds K a.d_region_of ["unit", "index"] []
  F_Events___init__ : Fun K "__init__" "Events.__init__" s_Events___init__ a.f_Events___init__ a.d_Events___init__
  k_Events___init__ : PySem.W.keepIn K (.ref a.f_Events___init__) = true
  bd_Events___init__ : Binds K a.d_Events___init__ ["self", "inputs"] []
  F_Events_put : Fun K "put" "Events.put" s_Events_put a.f_Events_put a.d_Events_put
  k_Events_put : PySem.W.keepIn K (.ref a.f_Events_put) = true
  bd_Events_put : Binds K a.d_Events_put ["self", "word"] []
  F_Events_get : Fun K "get" "Events.get" s_Events_get a.f_Events_get a.d_Events_get
  k_Events_get : PySem.W.keepIn K (.ref a.f_Events_get) = true
  bd_Events_get : Binds K a.d_Events_get ["self"] []
  F_Events_rows : Fun K "rows" "Events.rows" s_Events_rows a.f_Events_rows a.d_Events_rows
  k_Events_rows : PySem.W.keepIn K (.ref a.f_Events_rows) = true
  bd_Events_rows : Binds K a.d_Events_rows ["self"] []
  pr_Events_rows : PropOf K a.C_Events "rows" a.p_Events_rows a.f_Events_rows
  F_Fuel___init__ : Fun K "__init__" "Fuel.__init__" s_Fuel___init__ a.f_Fuel___init__ a.d_Fuel___init__
  k_Fuel___init__ : PySem.W.keepIn K (.ref a.f_Fuel___init__) = true
  bd_Fuel___init__ : Binds K a.d_Fuel___init__ ["self", "units"] []
  F_Fuel_tick : Fun K "tick" "Fuel.tick" s_Fuel_tick a.f_Fuel_tick a.d_Fuel_tick
  k_Fuel_tick : PySem.W.keepIn K (.ref a.f_Fuel_tick) = true
  bd_Fuel_tick : Binds K a.d_Fuel_tick ["self"] []
  F_Fuel_remaining : Fun K "remaining" "Fuel.remaining" s_Fuel_remaining a.f_Fuel_remaining a.d_Fuel_remaining
  k_Fuel_remaining : PySem.W.keepIn K (.ref a.f_Fuel_remaining) = true
  bd_Fuel_remaining : Binds K a.d_Fuel_remaining ["self"] []
  pr_Fuel_remaining : PropOf K a.C_Fuel "remaining" a.p_Fuel_remaining a.f_Fuel_remaining
  F_Layout___init__ : Fun K "__init__" "Layout.__init__" s_Layout___init__ a.f_Layout___init__ a.d_Layout___init__
  k_Layout___init__ : PySem.W.keepIn K (.ref a.f_Layout___init__) = true
  bd_Layout___init__ : Binds K a.d_Layout___init__ ["self", "where", "initial", "entrances", "cleared"] []
  g_plain_layout : mg "plain_layout" = some (.ref a.f_plain_layout)
  F_plain_layout : Fun K "plain_layout" "plain_layout" s_plain_layout a.f_plain_layout a.d_plain_layout
  k_plain_layout : PySem.W.keepIn K (.ref a.f_plain_layout) = true
  bd_plain_layout : Binds K a.d_plain_layout ["unit"] []
  F_Activation___init__ : Fun K "__init__" "Activation.__init__" s_Activation___init__ a.f_Activation___init__ a.d_Activation___init__
  k_Activation___init__ : PySem.W.keepIn K (.ref a.f_Activation___init__) = true
  bd_Activation___init__ : Binds K a.d_Activation___init__ ["self", "number", "unit", "layout", "link", "caller"] []
  F_Activation_value : Fun K "value" "Activation.value" s_Activation_value a.f_Activation_value a.d_Activation_value
  k_Activation_value : PySem.W.keepIn K (.ref a.f_Activation_value) = true
  bd_Activation_value : Binds K a.d_Activation_value ["self", "operand"] []
  F_Activation_write : Fun K "write" "Activation.write" s_Activation_write a.f_Activation_write a.d_Activation_write
  k_Activation_write : PySem.W.keepIn K (.ref a.f_Activation_write) = true
  bd_Activation_write : Binds K a.d_Activation_write ["self", "number", "word"] []
  F_Activation_outward : Fun K "outward" "Activation.outward" s_Activation_outward a.f_Activation_outward a.d_Activation_outward
  k_Activation_outward : PySem.W.keepIn K (.ref a.f_Activation_outward) = true
  bd_Activation_outward : Binds K a.d_Activation_outward ["self", "hops"] []
  F_Machine___init__ : Fun K "__init__" "Machine.__init__" s_Machine___init__ a.f_Machine___init__ a.d_Machine___init__
  k_Machine___init__ : PySem.W.keepIn K (.ref a.f_Machine___init__) = true
  bd_Machine___init__ : Binds K a.d_Machine___init__ ["self", "module", "layouts", "inputs", "fuel"] []
  F_Machine_activate : Fun K "activate" "Machine.activate" s_Machine_activate a.f_Machine_activate a.d_Machine_activate
  k_Machine_activate : PySem.W.keepIn K (.ref a.f_Machine_activate) = true
  bd_Machine_activate : Binds K a.d_Machine_activate ["self", "number", "link", "arguments"] []
  F_Machine_step : Fun K "step" "Machine.step" s_Machine_step a.f_Machine_step a.d_Machine_step
  k_Machine_step : PySem.W.keepIn K (.ref a.f_Machine_step) = true
  bd_Machine_step : Binds K a.d_Machine_step ["self"] []
  F_Machine_finish : Fun K "finish" "Machine.finish" s_Machine_finish a.f_Machine_finish a.d_Machine_finish
  k_Machine_finish : PySem.W.keepIn K (.ref a.f_Machine_finish) = true
  bd_Machine_finish : Binds K a.d_Machine_finish ["self"] []
  F_Machine_raise_exception : Fun K "raise_exception" "Machine.raise_exception" s_Machine_raise_exception a.f_Machine_raise_exception a.d_Machine_raise_exception
  k_Machine_raise_exception : PySem.W.keepIn K (.ref a.f_Machine_raise_exception) = true
  bd_Machine_raise_exception : Binds K a.d_Machine_raise_exception ["self", "number", "place"] []
  g__do_tick : mg "_do_tick" = some (.ref a.f_do_tick)
  F__do_tick : Fun K "_do_tick" "_do_tick" s_do_tick a.f_do_tick a.d_do_tick
  k__do_tick : PySem.W.keepIn K (.ref a.f_do_tick) = true
  bd__do_tick : Binds K a.d_do_tick ["machine", "_activation", "_instruction"] []
  g__do_move : mg "_do_move" = some (.ref a.f_do_move)
  F__do_move : Fun K "_do_move" "_do_move" s_do_move a.f_do_move a.d_do_move
  k__do_move : PySem.W.keepIn K (.ref a.f_do_move) = true
  bd__do_move : Binds K a.d_do_move ["_machine", "activation", "instruction"] []
  g__do_sign : mg "_do_sign" = some (.ref a.f_do_sign)
  F__do_sign : Fun K "_do_sign" "_do_sign" s_do_sign a.f_do_sign a.d_do_sign
  k__do_sign : PySem.W.keepIn K (.ref a.f_do_sign) = true
  bd__do_sign : Binds K a.d_do_sign ["machine", "activation", "instruction"] []
  g__do_arithmetic : mg "_do_arithmetic" = some (.ref a.f_do_arithmetic)
  F__do_arithmetic : Fun K "_do_arithmetic" "_do_arithmetic" s_do_arithmetic a.f_do_arithmetic a.d_do_arithmetic
  k__do_arithmetic : PySem.W.keepIn K (.ref a.f_do_arithmetic) = true
  bd__do_arithmetic : Binds K a.d_do_arithmetic ["machine", "activation", "instruction"] []
  g__do_compare : mg "_do_compare" = some (.ref a.f_do_compare)
  F__do_compare : Fun K "_do_compare" "_do_compare" s_do_compare a.f_do_compare a.d_do_compare
  k__do_compare : PySem.W.keepIn K (.ref a.f_do_compare) = true
  bd__do_compare : Binds K a.d_do_compare ["_machine", "activation", "instruction"] []
  g__do_check : mg "_do_check" = some (.ref a.f_do_check)
  F__do_check : Fun K "_do_check" "_do_check" s_do_check a.f_do_check a.d_do_check
  k__do_check : PySem.W.keepIn K (.ref a.f_do_check) = true
  bd__do_check : Binds K a.d_do_check ["machine", "activation", "instruction"] []
  g__do_load : mg "_do_load" = some (.ref a.f_do_load)
  F__do_load : Fun K "_do_load" "_do_load" s_do_load a.f_do_load a.d_do_load
  k__do_load : PySem.W.keepIn K (.ref a.f_do_load) = true
  bd__do_load : Binds K a.d_do_load ["machine", "activation", "instruction"] []
  g__do_store : mg "_do_store" = some (.ref a.f_do_store)
  F__do_store : Fun K "_do_store" "_do_store" s_do_store a.f_do_store a.d_do_store
  k__do_store : PySem.W.keepIn K (.ref a.f_do_store) = true
  bd__do_store : Binds K a.d_do_store ["machine", "activation", "instruction"] []
  g__do_jump : mg "_do_jump" = some (.ref a.f_do_jump)
  F__do_jump : Fun K "_do_jump" "_do_jump" s_do_jump a.f_do_jump a.d_do_jump
  k__do_jump : PySem.W.keepIn K (.ref a.f_do_jump) = true
  bd__do_jump : Binds K a.d_do_jump ["_machine", "activation", "instruction"] []
  g__do_branch : mg "_do_branch" = some (.ref a.f_do_branch)
  F__do_branch : Fun K "_do_branch" "_do_branch" s_do_branch a.f_do_branch a.d_do_branch
  k__do_branch : PySem.W.keepIn K (.ref a.f_do_branch) = true
  bd__do_branch : Binds K a.d_do_branch ["_machine", "activation", "instruction"] []
  g__do_call : mg "_do_call" = some (.ref a.f_do_call)
  F__do_call : Fun K "_do_call" "_do_call" s_do_call a.f_do_call a.d_do_call
  k__do_call : PySem.W.keepIn K (.ref a.f_do_call) = true
  bd__do_call : Binds K a.d_do_call ["machine", "activation", "instruction"] []
  g__do_return : mg "_do_return" = some (.ref a.f_do_return)
  F__do_return : Fun K "_do_return" "_do_return" s_do_return a.f_do_return a.d_do_return
  k__do_return : PySem.W.keepIn K (.ref a.f_do_return) = true
  bd__do_return : Binds K a.d_do_return ["machine", "activation", "instruction"] []
  g__do_raise : mg "_do_raise" = some (.ref a.f_do_raise)
  F__do_raise : Fun K "_do_raise" "_do_raise" s_do_raise a.f_do_raise a.d_do_raise
  k__do_raise : PySem.W.keepIn K (.ref a.f_do_raise) = true
  bd__do_raise : Binds K a.d_do_raise ["machine", "_activation", "instruction"] []
  g__do_again : mg "_do_again" = some (.ref a.f_do_again)
  F__do_again : Fun K "_do_again" "_do_again" s_do_again a.f_do_again a.d_do_again
  k__do_again : PySem.W.keepIn K (.ref a.f_do_again) = true
  bd__do_again : Binds K a.d_do_again ["machine", "activation", "instruction"] []
  g__do_put : mg "_do_put" = some (.ref a.f_do_put)
  F__do_put : Fun K "_do_put" "_do_put" s_do_put a.f_do_put a.d_do_put
  k__do_put : PySem.W.keepIn K (.ref a.f_do_put) = true
  bd__do_put : Binds K a.d_do_put ["machine", "activation", "instruction"] []
  g__do_get : mg "_do_get" = some (.ref a.f_do_get)
  F__do_get : Fun K "_do_get" "_do_get" s_do_get a.f_do_get a.d_do_get
  k__do_get : PySem.W.keepIn K (.ref a.f_do_get) = true
  bd__do_get : Binds K a.d_do_get ["machine", "activation", "instruction"] []
  g_run_module : mg "run_module" = some (.ref a.f_run_module)
  F_run_module : Fun K "run_module" "run_module" s_run_module a.f_run_module a.d_run_module
  k_run_module : PySem.W.keepIn K (.ref a.f_run_module) = true
  kb_run_module : KBinds K a.d_run_module ["module", "inputs", "fuel"] ["fuel"] kw2_1 kw2_1
  g__law_start : mg "_law_start" = some (.ref a.f_law_start)
  F__law_start : Fun K "_law_start" "_law_start" s_law_start a.f_law_start a.d_law_start
  k__law_start : PySem.W.keepIn K (.ref a.f_law_start) = true
  bd__law_start : Binds K a.d_law_start ["script"] []
  g__law_take : mg "_law_take" = some (.ref a.f_law_take)
  F__law_take : Fun K "_law_take" "_law_take" s_law_take a.f_law_take a.d_law_take
  k__law_take : PySem.W.keepIn K (.ref a.f_law_take) = true
  bd__law_take : Binds K a.d_law_take ["state", "many"] []
  g__law_place : mg "_law_place" = some (.ref a.f_law_place)
  F__law_place : Fun K "_law_place" "_law_place" s_law_place a.f_law_place a.d_law_place
  k__law_place : PySem.W.keepIn K (.ref a.f_law_place) = true
  bd__law_place : Binds K a.d_law_place ["state"] []
  g__law_region : mg "_law_region" = some (.ref a.f_law_region)
  F__law_region : Fun K "_law_region" "_law_region" s_law_region a.f_law_region a.d_law_region
  k__law_region : PySem.W.keepIn K (.ref a.f_law_region) = true
  bd__law_region : Binds K a.d_law_region ["state", "shape", "entry", "k"] []
  g__law_shape : mg "_law_shape" = some (.ref a.f_law_shape)
  F__law_shape : Fun K "_law_shape" "_law_shape" s_law_shape a.f_law_shape a.d_law_shape
  k__law_shape : PySem.W.keepIn K (.ref a.f_law_shape) = true
  bd__law_shape : Binds K a.d_law_shape ["state", "last"] []
  g__law_raising : mg "_law_raising" = some (.ref a.f_law_raising)
  F__law_raising : Fun K "_law_raising" "_law_raising" s_law_raising a.f_law_raising a.d_law_raising
  k__law_raising : PySem.W.keepIn K (.ref a.f_law_raising) = true
  bd__law_raising : Binds K a.d_law_raising ["shape", "number"] []
  g__law_unit : mg "_law_unit" = some (.ref a.f_law_unit)
  F__law_unit : Fun K "_law_unit" "_law_unit" s_law_unit a.f_law_unit a.d_law_unit
  k__law_unit : PySem.W.keepIn K (.ref a.f_law_unit) = true
  bd__law_unit : Binds K a.d_law_unit ["shape", "number"] []
  g__law_taken : mg "_law_taken" = some (.ref a.f_law_taken)
  F__law_taken : Fun K "_law_taken" "_law_taken" s_law_taken a.f_law_taken a.d_law_taken
  k__law_taken : PySem.W.keepIn K (.ref a.f_law_taken) = true
  bd__law_taken : Binds K a.d_law_taken ["shape", "index"] []
  g__law_rows : mg "_law_rows" = some (.ref a.f_law_rows)
  F__law_rows : Fun K "_law_rows" "_law_rows" s_law_rows a.f_law_rows a.d_law_rows
  k__law_rows : PySem.W.keepIn K (.ref a.f_law_rows) = true
  bd__law_rows : Binds K a.d_law_rows ["shape", "raised", "index", "events"] []
  g__law_walk : mg "_law_walk" = some (.ref a.f_law_walk)
  F__law_walk : Fun K "_law_walk" "_law_walk" s_law_walk a.f_law_walk a.d_law_walk
  k__law_walk : PySem.W.keepIn K (.ref a.f_law_walk) = true
  bd__law_walk : Binds K a.d_law_walk ["shapes", "number", "events"] []
  g__law_alike : mg "_law_alike" = some (.ref a.f_law_alike)
  F__law_alike : Fun K "_law_alike" "_law_alike" s_law_alike a.f_law_alike a.d_law_alike
  k__law_alike : PySem.W.keepIn K (.ref a.f_law_alike) = true
  bd__law_alike : Binds K a.d_law_alike ["answer", "due"] []
  g_law : mg "law" = some (.ref a.f_law)
  F_law : Fun K "law" "law" s_law a.f_law a.d_law
  k_law : PySem.W.keepIn K (.ref a.f_law) = true
  bd_law : Binds K a.d_law ["script"] []
  g_ACTIONS : mg "ACTIONS" = some (.ref a.c_ACTIONS)
  kd_ACTIONS_tick : KDct K w a.c_ACTIONS "tick" (.ref a.f_do_tick)
  kd_ACTIONS_move : KDct K w a.c_ACTIONS "move" (.ref a.f_do_move)
  kd_ACTIONS_neg : KDct K w a.c_ACTIONS "neg" (.ref a.f_do_sign)
  kd_ACTIONS_abs : KDct K w a.c_ACTIONS "abs" (.ref a.f_do_sign)
  kd_ACTIONS_add : KDct K w a.c_ACTIONS "add" (.ref a.f_do_arithmetic)
  kd_ACTIONS_sub : KDct K w a.c_ACTIONS "sub" (.ref a.f_do_arithmetic)
  kd_ACTIONS_mul : KDct K w a.c_ACTIONS "mul" (.ref a.f_do_arithmetic)
  kd_ACTIONS_div : KDct K w a.c_ACTIONS "div" (.ref a.f_do_arithmetic)
  kd_ACTIONS_mod : KDct K w a.c_ACTIONS "mod" (.ref a.f_do_arithmetic)
  kd_ACTIONS_rem : KDct K w a.c_ACTIONS "rem" (.ref a.f_do_arithmetic)
  kd_ACTIONS_less : KDct K w a.c_ACTIONS "less" (.ref a.f_do_compare)
  kd_ACTIONS_equal : KDct K w a.c_ACTIONS "equal" (.ref a.f_do_compare)
  kd_ACTIONS_check : KDct K w a.c_ACTIONS "check" (.ref a.f_do_check)
  kd_ACTIONS_load : KDct K w a.c_ACTIONS "load" (.ref a.f_do_load)
  kd_ACTIONS_store : KDct K w a.c_ACTIONS "store" (.ref a.f_do_store)
  kd_ACTIONS_jump : KDct K w a.c_ACTIONS "jump" (.ref a.f_do_jump)
  kd_ACTIONS_branch : KDct K w a.c_ACTIONS "branch" (.ref a.f_do_branch)
  kd_ACTIONS_call : KDct K w a.c_ACTIONS "call" (.ref a.f_do_call)
  kd_ACTIONS_return : KDct K w a.c_ACTIONS "return" (.ref a.f_do_return)
  kd_ACTIONS_raise : KDct K w a.c_ACTIONS "raise" (.ref a.f_do_raise)
  kd_ACTIONS_again : KDct K w a.c_ACTIONS "again" (.ref a.f_do_again)
  kd_ACTIONS_put : KDct K w a.c_ACTIONS "put" (.ref a.f_do_put)
  kd_ACTIONS_get : KDct K w a.c_ACTIONS "get" (.ref a.f_do_get)
  g_CONSTRAINT : mg "CONSTRAINT" = some (.int (0) a.t_CONSTRAINT)
  g_DEPTH_LIMIT : mg "DEPTH_LIMIT" = some (.int (10) a.t_DEPTH_LIMIT)
  g_END : mg "END" = some (.int (3) a.t_END)
  g_EXHAUSTED : mg "EXHAUSTED" = some (.ref a.c_EXHAUSTED)
  q_EXHAUSTED : ∀ H : Hp, SqT K H a.c_EXHAUSTED [.str "exhausted"]
  g_FAULT : mg "FAULT" = some (.ref a.c_FAULT)
  q_FAULT : ∀ H : Hp, SqT K H a.c_FAULT [.str "fault"]
  g_MAX : mg "MAX" = some (.int (2147483647) a.t_MAX)
  g_MIN : mg "MIN" = some (.int (-2147483648) a.t_MIN)
  g_NORMAL : mg "NORMAL" = some (.ref a.c_NORMAL)
  q_NORMAL : ∀ H : Hp, SqT K H a.c_NORMAL [.str "normal"]
  g_SIGNS : mg "SIGNS" = some (.ref a.c_SIGNS)
  kd_SIGNS_add : KDct K w a.c_SIGNS "add" (.str "+")
  kd_SIGNS_sub : KDct K w a.c_SIGNS "sub" (.str "-")
  kd_SIGNS_mul : KDct K w a.c_SIGNS "mul" (.str "*")
  kd_SIGNS_div : KDct K w a.c_SIGNS "div" (.str "/")
  kd_SIGNS_mod : KDct K w a.c_SIGNS "mod" (.str "mod")
  kd_SIGNS_rem : KDct K w a.c_SIGNS "rem" (.str "rem")
  kd_SIGNS_less : KDct K w a.c_SIGNS "less" (.str "<")
  kd_SIGNS_equal : KDct K w a.c_SIGNS "equal" (.str "=")
  g_STORAGE : mg "STORAGE" = some (.int (2) a.t_STORAGE)
  b_abs : mg "abs" = none
  b_bool : mg "bool" = none
  b_int : mg "int" = none
  b_isinstance : mg "isinstance" = none
  b_len : mg "len" = none
  b_list : mg "list" = none
  b_max : mg "max" = none
  b_min : mg "min" = none
  b_property : mg "property" = none
  b_range : mg "range" = none
  b_str : mg "str" = none
  b_tuple : mg "tuple" = none
  b_zip : mg "zip" = none
  g_Unit : mg "Unit" = some (.ref a.C_Unit)
  cl_Unit : Cls K a.C_Unit
  mk_Unit : Mk K a.C_Unit a.f_Unit___init__
  n_Unit_parent : NoAttr K a.C_Unit "parent"
  n_Unit_arguments : NoAttr K a.C_Unit "arguments"
  n_Unit_results : NoAttr K a.C_Unit "results"
  n_Unit_registers : NoAttr K a.C_Unit "registers"
  n_Unit_cells : NoAttr K a.C_Unit "cells"
  n_Unit_code : NoAttr K a.C_Unit "code"
  n_Unit_regions : NoAttr K a.C_Unit "regions"
  g_Module : mg "Module" = some (.ref a.C_Module)
  cl_Module : Cls K a.C_Module
  mk_Module : Mk K a.C_Module a.f_Module___init__
  n_Module_units : NoAttr K a.C_Module "units"
  n_Module_names : NoAttr K a.C_Module "names"
  n_Module_places : NoAttr K a.C_Module "places"
  g_AdaError : mg "AdaError" = some (.ref a.C_AdaError)
  x_AdaError : PySem.W.excIn K a.C_AdaError [.type "ValueError", .type "Exception", .type "BaseException", .type "object"] "ValueError.__new__" = true
  kC_AdaError : PySem.W.keepIn K (.ref a.C_AdaError) = true
  s1_AdaError : PySem.W.subIn K (.ref a.C_AdaError) (.type "BaseException") = some true
  ty_AdaError : PySem.W.typeIn K (.ref a.C_AdaError) = some (.type "type")
  ic_AdaError : PySem.W.isClsIn K a.C_AdaError = true
  g_Overflow : mg "Overflow" = some (.ref a.C_Overflow)
  x_Overflow : PySem.W.excIn K a.C_Overflow [.type "ValueError", .type "Exception", .type "BaseException", .type "object"] "ValueError.__new__" = true
  kC_Overflow : PySem.W.keepIn K (.ref a.C_Overflow) = true
  s1_Overflow : PySem.W.subIn K (.ref a.C_Overflow) (.type "BaseException") = some true
  ty_Overflow : PySem.W.typeIn K (.ref a.C_Overflow) = some (.type "type")
  ic_Overflow : PySem.W.isClsIn K a.C_Overflow = true
  ec_Overflow : ExcC K a.C_Overflow
  g_DivisionByZero : mg "DivisionByZero" = some (.ref a.C_DivisionByZero)
  x_DivisionByZero : PySem.W.excIn K a.C_DivisionByZero [.type "ValueError", .type "Exception", .type "BaseException", .type "object"] "ValueError.__new__" = true
  kC_DivisionByZero : PySem.W.keepIn K (.ref a.C_DivisionByZero) = true
  s1_DivisionByZero : PySem.W.subIn K (.ref a.C_DivisionByZero) (.type "BaseException") = some true
  ty_DivisionByZero : PySem.W.typeIn K (.ref a.C_DivisionByZero) = some (.type "type")
  ic_DivisionByZero : PySem.W.isClsIn K a.C_DivisionByZero = true
  ec_DivisionByZero : ExcC K a.C_DivisionByZero
  g_NoInput : mg "NoInput" = some (.ref a.C_NoInput)
  x_NoInput : PySem.W.excIn K a.C_NoInput [.type "ValueError", .type "Exception", .type "BaseException", .type "object"] "ValueError.__new__" = true
  kC_NoInput : PySem.W.keepIn K (.ref a.C_NoInput) = true
  s1_NoInput : PySem.W.subIn K (.ref a.C_NoInput) (.type "BaseException") = some true
  ty_NoInput : PySem.W.typeIn K (.ref a.C_NoInput) = some (.type "type")
  ic_NoInput : PySem.W.isClsIn K a.C_NoInput = true
  ec_NoInput : ExcC K a.C_NoInput
  g_OutOfFuel : mg "OutOfFuel" = some (.ref a.C_OutOfFuel)
  x_OutOfFuel : PySem.W.excIn K a.C_OutOfFuel [.type "ValueError", .type "Exception", .type "BaseException", .type "object"] "ValueError.__new__" = true
  kC_OutOfFuel : PySem.W.keepIn K (.ref a.C_OutOfFuel) = true
  s1_OutOfFuel : PySem.W.subIn K (.ref a.C_OutOfFuel) (.type "BaseException") = some true
  ty_OutOfFuel : PySem.W.typeIn K (.ref a.C_OutOfFuel) = some (.type "type")
  ic_OutOfFuel : PySem.W.isClsIn K a.C_OutOfFuel = true
  ec_OutOfFuel : ExcC K a.C_OutOfFuel
  g_Events : mg "Events" = some (.ref a.C_Events)
  cl_Events : Cls K a.C_Events
  mk_Events : Mk K a.C_Events a.f_Events___init__
  n_Events__inputs : NoAttr K a.C_Events "_inputs"
  n_Events__taken : NoAttr K a.C_Events "_taken"
  n_Events__rows : NoAttr K a.C_Events "_rows"
  m_Events_put : Meth K a.C_Events "put" a.f_Events_put
  m_Events_get : Meth K a.C_Events "get" a.f_Events_get
  g_Fuel : mg "Fuel" = some (.ref a.C_Fuel)
  cl_Fuel : Cls K a.C_Fuel
  mk_Fuel : Mk K a.C_Fuel a.f_Fuel___init__
  n_Fuel__left : NoAttr K a.C_Fuel "_left"
  m_Fuel_tick : Meth K a.C_Fuel "tick" a.f_Fuel_tick
  g_Layout : mg "Layout" = some (.ref a.C_Layout)
  cl_Layout : Cls K a.C_Layout
  mk_Layout : Mk K a.C_Layout a.f_Layout___init__
  n_Layout_where : NoAttr K a.C_Layout "where"
  n_Layout_initial : NoAttr K a.C_Layout "initial"
  n_Layout_entrances : NoAttr K a.C_Layout "entrances"
  n_Layout_cleared : NoAttr K a.C_Layout "cleared"
  g_Activation : mg "Activation" = some (.ref a.C_Activation)
  cl_Activation : Cls K a.C_Activation
  mk_Activation : Mk K a.C_Activation a.f_Activation___init__
  n_Activation_number : NoAttr K a.C_Activation "number"
  n_Activation_unit : NoAttr K a.C_Activation "unit"
  n_Activation_where : NoAttr K a.C_Activation "where"
  n_Activation_words : NoAttr K a.C_Activation "words"
  n_Activation_cells : NoAttr K a.C_Activation "cells"
  n_Activation_link : NoAttr K a.C_Activation "link"
  n_Activation_caller : NoAttr K a.C_Activation "caller"
  n_Activation_depth : NoAttr K a.C_Activation "depth"
  n_Activation_index : NoAttr K a.C_Activation "index"
  m_Activation_value : Meth K a.C_Activation "value" a.f_Activation_value
  m_Activation_write : Meth K a.C_Activation "write" a.f_Activation_write
  m_Activation_outward : Meth K a.C_Activation "outward" a.f_Activation_outward
  g_Machine : mg "Machine" = some (.ref a.C_Machine)
  cl_Machine : Cls K a.C_Machine
  mk_Machine : Mk K a.C_Machine a.f_Machine___init__
  n_Machine_module : NoAttr K a.C_Machine "module"
  n_Machine_layouts : NoAttr K a.C_Machine "layouts"
  n_Machine_events : NoAttr K a.C_Machine "events"
  n_Machine_fuel : NoAttr K a.C_Machine "fuel"
  n_Machine_current : NoAttr K a.C_Machine "current"
  n_Machine_ending : NoAttr K a.C_Machine "ending"
  m_Machine_activate : Meth K a.C_Machine "activate" a.f_Machine_activate
  m_Machine_step : Meth K a.C_Machine "step" a.f_Machine_step
  m_Machine_finish : Meth K a.C_Machine "finish" a.f_Machine_finish
  m_Machine_raise_exception : Meth K a.C_Machine "raise_exception" a.f_Machine_raise_exception
  e_Overflow_Overflow : PySem.W.exmOne K (.ref a.C_Overflow) (.ref a.C_Overflow) = some true
  e_DivisionByZero_Overflow : PySem.W.exmOne K (.ref a.C_DivisionByZero) (.ref a.C_Overflow) = some false
  e_Overflow_DivisionByZero : PySem.W.exmOne K (.ref a.C_Overflow) (.ref a.C_DivisionByZero) = some false
  e_DivisionByZero_DivisionByZero : PySem.W.exmOne K (.ref a.C_DivisionByZero) (.ref a.C_DivisionByZero) = some true
  e_NoInput_NoInput : PySem.W.exmOne K (.ref a.C_NoInput) (.ref a.C_NoInput) = some true
  e_OutOfFuel_OutOfFuel : PySem.W.exmOne K (.ref a.C_OutOfFuel) (.ref a.C_OutOfFuel) = some true
/-! ### rules of a block over a fixed K -/
theorem ix_tupK {X : Cx} {K : PySem.W.Frag} (h : X.K = K) : IxR X (rIxT K) := by
  subst h
  exact ix_tup
theorem ix_listK {X : Cx} {K : PySem.W.Frag} (h : X.K = K) : IxR X (rIxL K) := by
  subst h
  exact ix_list
theorem call_isiK {X : Cx} {K : PySem.W.Frag} (h : X.K = K) : CallR X (.builtin "isinstance") (rIsi K) := by
  subst h
  exact call_isi
theorem sTr {H H1 H2 : Hp} (x : Same H H1) (y : Same H1 H2) : Same H H2 := fun b o e => y b o (x b o e)
/-! ### data without lists -/
mutual
inductive DT (K : PySem.W.Frag) (H : Hp) : V → PyData → Prop
  | non : DT K H .non .none
  | bl (b : Bool) : DT K H (.bl b) (.bool b)
  | int (i : Int) : DT K H (.int i) (.int i)
  | str (x : Str) : DT K H (.str x) (.str x)
  | tup {a : Addr} {xs : List V} {ds : List PyData} : SqT K H a xs → DTs K H xs ds → DT K H (.ref a) (.tuple ds)
inductive DTs (K : PySem.W.Frag) (H : Hp) : List V → List PyData → Prop
  | nil : DTs K H [] []
  | cons {v : V} {vs : List V} {d : PyData} {ds : List PyData} : DT K H v d → DTs K H vs ds → DTs K H (v :: vs) (d :: ds)
end
section
variable {K : PySem.W.Frag} {H H' H2 : Hp}
theorem DTs.len : ∀ {vs : List V} {ds : List PyData}, DTs K H vs ds → vs.length = ds.length
  | _, _, .nil => rfl
  | _, _, .cons _ r => congrArg (· + 1) r.len
theorem DTs.get : ∀ {vs : List V} {ds : List PyData} {i : Nat} {d : PyData}, DTs K H vs ds → ds[i]? = some d → ∃ v, vs[i]? = some v ∧ DT K H v d
  | _, _, _, _, .nil, e => by simp at e
  | _, _, 0, _, .cons h _, e => by
    obtain rfl := Option.some.inj e
    exact ⟨_, rfl, h⟩
  | _, _, i + 1, d, .cons _ r, e => by
    obtain ⟨v, h1, h2⟩ := r.get (i := i) (d := d) (by simpa using e)
    exact ⟨v, by simpa using h1, h2⟩
theorem DTs.at : ∀ {vs : List V} {ds : List PyData} {i : Nat} {v : V}, DTs K H vs ds → vs[i]? = some v → ∃ d, ds[i]? = some d ∧ DT K H v d
  | _, _, _, _, .nil, e => by simp at e
  | _, _, 0, _, .cons h _, e => by
    obtain rfl := Option.some.inj e
    exact ⟨_, rfl, h⟩
  | _, _, i + 1, v, .cons _ r, e => by
    obtain ⟨d, h1, h2⟩ := r.at (i := i) (v := v) (by simpa using e)
    exact ⟨d, by simpa using h1, h2⟩
theorem DTs.app : ∀ {vs ws : List V} {ds es : List PyData}, DTs K H vs ds → DTs K H ws es → DTs K H (vs ++ ws) (ds ++ es)
  | _, _, _, _, .nil, s => s
  | _, _, _, _, .cons h r, s => .cons h (r.app s)
/-- tuples stay -/
def KT (K : PySem.W.Frag) (H H' : Hp) : Prop := ∀ a xs, SqT K H a xs → SqT K H' a xs
theorem KT.same (s : Same H H') : KT K H H' := fun _ _ h => seqT s h
theorem KT.tr (x : KT K H H') (y : KT K H' H2) : KT K H H2 := fun a xs h => y a xs (x a xs h)
theorem KT.put {p : Addr} {ys : List V} {o : HO} (e : H p = some (.lst ys)) : KT K H (upd H p o) := fun a xs h => by
  rcases h with (h | ⟨u, h⟩) | h
  · exact .inl (.inl (by rw [upd_ne (ne_of h e fun z => nomatch z)]; exact h))
  · exact .inl (.inr ⟨u, by rw [upd_ne (ne_of h e fun z => nomatch z)]; exact h⟩)
  · exact .inr h
theorem KT.new {p : Addr} {o : HO} (n : H p = none) : KT K H (upd H p o) := .same (sN (Same.refl H) n)
mutual
theorem DT.keep (k : KT K H H') : ∀ {v : V} {d : PyData}, DT K H v d → DT K H' v d
  | _, _, .non => .non
  | _, _, .bl b => .bl b
  | _, _, .int b => .int b
  | _, _, .str b => .str b
  | _, _, .tup h r => .tup (k _ _ h) (r.keep k)
theorem DTs.keep (k : KT K H H') : ∀ {vs : List V} {ds : List PyData}, DTs K H vs ds → DTs K H' vs ds
  | _, _, .nil => .nil
  | _, _, .cons h r => .cons (h.keep k) (r.keep k)
end
def isTup : PyData → Bool
  | .tuple _ => true
  | _ => false
theorem DT.isT {v : V} {d : PyData} (h : DT K H v d) : ∃ t, TyX K H v t ∧ PySem.W.kitOne K t (.type "tuple") = some (isTup d) := by
  cases h with
  | non => exact ⟨_, .base .non, kit_ty (by decide +kernel : kitB "NoneType" "tuple" = some false)⟩
  | bl b => exact ⟨_, .base (.bl b), kit_ty (by decide +kernel : kitB "bool" "tuple" = some false)⟩
  | int b => exact ⟨_, .base (.int b), kit_ty (by decide +kernel : kitB "int" "tuple" = some false)⟩
  | str b => exact ⟨_, .base (.str b), kit_ty (by decide +kernel : kitB "str" "tuple" = some false)⟩
  | tup h r => exact ⟨_, tyx_tup h, kit_ty (by decide +kernel : kitB "tuple" "tuple" = some true)⟩
end

/-! ### the program: operands, reads, writes, followers, regions -/
abbrev Op := Str × Int
def opD (g : Op) : PyData := .tuple [.str g.1, .int g.2]
def rdOf (gs : List Op) : List PyData := (gs.filter fun g => decide (g.1 = ("reg" : Str))).map fun g => .int g.2
def OpsOk (nm : Str) (D : List PyData) (gs : List PyData) : Prop :=
  (nm = "call" ∧ D[3]? = some (.tuple gs)) ∨ (nm = "return" ∧ D[1]? = some (.tuple gs)) ∨ (nm ≠ "call" ∧ nm ≠ "return" ∧ gs = D.filter isTup)
def wrs : List V := [.str "move", .str "neg", .str "abs", .str "add", .str "sub", .str "mul", .str "div", .str "mod", .str "rem", .str "less", .str "equal", .str "load", .str "get"]
def rss : List V := [.str "neg", .str "abs", .str "add", .str "sub", .str "mul", .str "div", .str "mod", .str "rem", .str "check", .str "call", .str "raise", .str "again", .str "get"]
def lvs : List V := [.str "return", .str "raise", .str "again"]
def WrOk (nm : Str) (D : List PyData) (ws : List PyData) : Prop :=
  (nm = "call" ∧ D[4]? = some (.tuple ws)) ∨ (nm ≠ "call" ∧ inV (.str nm) wrs = true ∧ ∃ d, D[1]? = some (.int d) ∧ ws = [.int d]) ∨ (nm ≠ "call" ∧ inV (.str nm) wrs = false ∧ ws = [])
def mn (x y : Int) : Int := if y < x then y else x
def mx (x y : Int) : Int := if y > x then y else x
def FoOk (nm : Str) (D : List PyData) (ix : Int) (bs : List PyData) : Prop :=
  (inV (.str nm) lvs = true ∧ bs = []) ∨ (inV (.str nm) lvs = false ∧ nm = "jump" ∧ ∃ t, D[1]? = some (.int t) ∧ bs = [.int t]) ∨
  (inV (.str nm) lvs = false ∧ nm ≠ "jump" ∧ nm = "branch" ∧ ∃ t, D[2]? = some (.int t) ∧ t ≠ ix + 1 ∧ bs = [.int (mn t (ix + 1)), .int (mx t (ix + 1))]) ∨
  (inV (.str nm) lvs = false ∧ nm ≠ "jump" ∧ nm = "branch" ∧ ∃ t, D[2]? = some (.int t) ∧ t = ix + 1 ∧ bs = [.int (ix + 1)]) ∨
  (inV (.str nm) lvs = false ∧ nm ≠ "jump" ∧ nm ≠ "branch" ∧ bs = [.int (ix + 1)])
def regD (r : List Int) : PyData := .tuple (r.map .int)
def inR (at' : Int) (r : List Int) : Bool := decide (r.getD 0 0 ≤ at') && decide (at' < r.getD 1 0)
def findR (rs : List (List Int)) (at' : Int) : PyData := match rs.find? (inR at') with
  | some r => regD r
  | none => .none
def spOps (K : PySem.W.Frag) : Sp := fun vs H Q _ => ∃ (v : V) (nm : Str) (ds : List PyData) (gs : List PyData), vs = [v] ∧ DT K H v (.tuple (.str nm :: ds)) ∧ OpsOk nm (.str nm :: ds) gs ∧ ds.length ≤ 100 ∧ ∀ u H', DT K H' u (.tuple gs) → Same H H' → Q u H'
def spRds (K : PySem.W.Frag) : Sp := fun vs H Q _ => ∃ (v : V) (nm : Str) (ds : List PyData) (gs : List Op), vs = [v] ∧ DT K H v (.tuple (.str nm :: ds)) ∧ OpsOk nm (.str nm :: ds) (gs.map opD) ∧ ds.length ≤ 100 ∧ gs.length ≤ 100 ∧ ∀ u H', DT K H' u (.tuple (rdOf gs)) → Same H H' → Q u H'
def spWrs (K : PySem.W.Frag) : Sp := fun vs H Q _ => ∃ (v : V) (nm : Str) (ds : List PyData) (ws : List PyData), vs = [v] ∧ DT K H v (.tuple (.str nm :: ds)) ∧ WrOk nm (.str nm :: ds) ws ∧ ∀ u H', DT K H' u (.tuple ws) → Same H H' → Q u H'
def spCan (K : PySem.W.Frag) : Sp := fun vs H Q _ => ∃ (v : V) (nm : Str) (ds : List PyData), vs = [v] ∧ DT K H v (.tuple (.str nm :: ds)) ∧ Q (.bl (inV (.str nm) rss)) H
def spFol (K : PySem.W.Frag) : Sp := fun vs H Q _ => ∃ (v : V) (nm : Str) (ds : List PyData) (bs : List PyData) (ix : Int), vs = [v, .int ix] ∧ DT K H v (.tuple (.str nm :: ds)) ∧ FoOk nm (.str nm :: ds) ix bs ∧ ∀ u H', DT K H' u (.tuple bs) → Same H H' → Q u H'
def unF (v0 v1 v2 v3 v4 v5 v6 : V) : List (Str × V) := putF "regions" v6 (putF "code" v5 (putF "cells" v4 (putF "registers" v3 (putF "results" v2 (putF "arguments" v1 (putF "parent" v0 []))))))
theorem un_rg (v0 v1 v2 v3 v4 v5 v6 : V) : (unF v0 v1 v2 v3 v4 v5 v6).lookup ("regions" : Str) = some v6 :=
  (lookup_putF "regions" "regions" v6 _).trans (if_pos rfl)
theorem un_ne : ¬ ("code" : Str) = "regions" := by decide +kernel
theorem un_cd (v0 v1 v2 v3 v4 v5 v6 : V) : (unF v0 v1 v2 v3 v4 v5 v6).lookup ("code" : Str) = some v5 :=
  ((lookup_putF "regions" "code" v6 _).trans (if_neg un_ne)).trans ((lookup_putF "code" "code" v5 _).trans (if_pos rfl))
theorem pf_lt {f : Str} {v : V} {fs : List (Str × V)} {n : Nat} (h : fs.length ≤ n) : (putF f v fs).length ≤ n + 1 := Nat.le_trans (length_putF f v fs) (Nat.succ_le_succ h)
def spUnI (C : Addr) : Sp := fun vs H Q _ => ∃ (p dx : Addr) (v0 v1 v2 v3 v4 v5 v6 : V), vs = [.ref p, v0, v1, v2, v3, v4, v5, v6] ∧ H p = some (.ins C dx []) ∧ Q .non (upd H p (.ins C dx (unF v0 v1 v2 v3 v4 v5 v6)))
def spRegOf (K : PySem.W.Frag) (C : Addr) : Sp := fun vs H Q _ => ∃ (p dx : Addr) (v0 v1 v2 v3 v4 v5 : V) (ra : Addr) (xs : List V) (rs : List (List Int)) (ix : Int), vs = [.ref p, .int ix] ∧ H p = some (.ins C dx (unF v0 v1 v2 v3 v4 v5 (.ref ra))) ∧ SqT K H ra xs ∧ DTs K H xs (rs.map regD) ∧ (∀ r ∈ rs, 2 ≤ r.length) ∧ ∀ u, DT K H u (findR rs ix) → Q u H
theorem str_dec {x y : Str} (c : decide (V.str x = V.str y) = true) : x = y := by
  have := of_decide_eq_true c
  injection this
theorem str_dec' {x y : Str} (c : decide (V.str x = V.str y) = false) : x ≠ y := fun e => by
  rw [e] at c
  simp at c
theorem DT.ts {K : PySem.W.Frag} {H : Hp} {v : V} {ds : List PyData} (h : DT K H v (.tuple ds)) : ∃ a xs, v = .ref a ∧ SqT K H a xs ∧ DTs K H xs ds := by
  cases h with
  | tup h r => exact ⟨_, _, rfl, h, r⟩
theorem DT.i {K : PySem.W.Frag} {H : Hp} {v : V} {i : Int} (h : DT K H v (.int i)) : v = .int i := by
  cases h; rfl
theorem DT.s {K : PySem.W.Frag} {H : Hp} {v : V} {i : Str} (h : DT K H v (.str i)) : v = .str i := by
  cases h; rfl
theorem DTs.un {K : PySem.W.Frag} {H : Hp} {xs : List V} {d : PyData} {ds : List PyData} (h : DTs K H xs (d :: ds)) : ∃ v vs, xs = v :: vs ∧ DT K H v d ∧ DTs K H vs ds := by
  cases h with
  | cons k r => exact ⟨_, _, rfl, k, r⟩
theorem DTs.em {K : PySem.W.Frag} {H : Hp} {xs : List V} (h : DTs K H xs []) : xs = [] := by
  cases h; rfl
theorem DT.op {K : PySem.W.Frag} {H : Hp} {v : V} {z : Str} {n : Int} (h : DT K H v (opD (z, n))) : ∃ pb, v = .ref pb ∧ SqT K H pb [.str z, .int n] := by
  obtain ⟨pb, ys, e, hs, hd⟩ := DT.ts (ds := [.str z, .int n]) h
  obtain ⟨v1, y1, e1, k1, r1⟩ := hd.un
  obtain ⟨v2, y2, e2, k2, r2⟩ := r1.un
  rw [e1, e2, k1.s, k2.i, r2.em] at hs
  exact ⟨_, e, hs⟩
/-- the item of a tuple -/
theorem DTs.it {K : PySem.W.Frag} {H : Hp} {xs : List V} {ds : List PyData} (h : DTs K H xs ds) (i : Nat) {d : PyData} (e : ds[i]? = some d) : ∃ v, atI xs (i : Int) = some v ∧ DT K H v d := by
  obtain ⟨v, h1, h2⟩ := h.get e
  exact ⟨v, atI_nat h1, h2⟩
theorem filter_step {α : Type} {D : List α} {i : Nat} {d : α} (p : α → Bool) (h : D[i]? = some d) : (D.take (i + 1)).filter p = (D.take i).filter p ++ (if p d = true then [d] else []) := by
  rw [List.take_succ, h, List.filter_append]
  cases e : p d with
  | true => simp [e]
  | false => simp [e]
theorem ints_get {r : List Int} {i : Nat} (h : i < r.length) : (r.map PyData.int)[i]? = some (.int (r.getD i 0)) := by
  simp [List.getD, h]
section
variable {P : Program} {w : World} {K : PySem.W.Frag} {mg : Str → Option Value} {base : Heap} {a : Ad}
theorem ok_Unit___init__ (T : Txt w K mg a) : FnOk P w K mg base CX0 1 a.f_Unit___init__ a.d_Unit___init__ ["self", "parent", "arguments", "results", "registers", "cells", "code", "regions"] (spUnI a.C_Unit) := by
  refine T.F_Unit___init__.ok sc_Unit___init__ (fun vs H Q E h => ?_) (fun cdv A outer s H vs Q E hr h => ?_)
  · obtain ⟨_, _, _, _, _, _, _, _, _, rfl, _⟩ := h; rfl
  · obtain ⟨p, dx, v0, v1, v2, v3, v4, v5, v6, rfl, hp, q⟩ := h
    refine ⟨_, (pss_cons (ps_fld (pv 0) (pv 1) rfl)
      (pss_cons (ps_fld (pv 0) (pv 2) rfl)
      (pss_cons (ps_fld (pv 0) (pv 3) rfl)
      (pss_cons (ps_fld (pv 0) (pv 4) rfl)
      (pss_cons (ps_fld (pv 0) (pv 5) rfl)
      (pss_cons (ps_fld (pv 0) (pv 6) rfl)
      (pss_one (ps_fld (pv 0) (pv 7) rfl)))))))), ?_⟩
    refine ⟨_, rfl, _, rfl, p, a.C_Unit, dx, _, rfl, hp, T.cl_Unit, T.n_Unit_parent, (by show 0 < 1000; decide), ?_⟩
    refine ⟨_, rfl, _, rfl, p, a.C_Unit, dx, _, rfl, upd_same, T.cl_Unit, T.n_Unit_arguments, (by show 1 < 1000; decide), ?_⟩
    rw [upd_upd]
    refine ⟨_, rfl, _, rfl, p, a.C_Unit, dx, _, rfl, upd_same, T.cl_Unit, T.n_Unit_results, Nat.lt_of_le_of_lt (pf_lt (pf_lt (Nat.le_refl 0))) (by decide : 2 < 1000), ?_⟩
    rw [upd_upd]
    refine ⟨_, rfl, _, rfl, p, a.C_Unit, dx, _, rfl, upd_same, T.cl_Unit, T.n_Unit_registers, Nat.lt_of_le_of_lt (pf_lt (pf_lt (pf_lt (Nat.le_refl 0)))) (by decide : 3 < 1000), ?_⟩
    rw [upd_upd]
    refine ⟨_, rfl, _, rfl, p, a.C_Unit, dx, _, rfl, upd_same, T.cl_Unit, T.n_Unit_cells, Nat.lt_of_le_of_lt (pf_lt (pf_lt (pf_lt (pf_lt (Nat.le_refl 0))))) (by decide : 4 < 1000), ?_⟩
    rw [upd_upd]
    refine ⟨_, rfl, _, rfl, p, a.C_Unit, dx, _, rfl, upd_same, T.cl_Unit, T.n_Unit_code, Nat.lt_of_le_of_lt (pf_lt (pf_lt (pf_lt (pf_lt (pf_lt (Nat.le_refl 0)))))) (by decide : 5 < 1000), ?_⟩
    rw [upd_upd]
    refine ⟨_, rfl, _, rfl, p, a.C_Unit, dx, _, rfl, upd_same, T.cl_Unit, T.n_Unit_regions, Nat.lt_of_le_of_lt (pf_lt (pf_lt (pf_lt (pf_lt (pf_lt (pf_lt (Nat.le_refl 0))))))) (by decide : 6 < 1000), ?_⟩
    rw [upd_upd]
    exact q
end

/-! ### for over a tuple in a hot place; except (A, B) -/
section
open PySem PySem.Spec PyProof.Rows L2 HotX L2H
variable {P : Program} {w : World} {A : Around} {E : Value → Shared → Prop} {s : Shared}
theorem tup_end_hot {it t x1 : Addr} {i : Nat} {items : Array Value} {Q : Option Value → Shared → Prop} (hot : HotAt A x1 s.heap) (hit : s.heap.IsTupleIter it t i) (ht : s.heap.IsTuple t items) (hx : items[i]? = none)
    (hQ : ∀ h', Heap.ExtBut it s.heap h' → Q none { s with heap := h' }) : wpAny (model P w) A (pyNext (.ref it)) Q E s := by
  obtain ⟨o, ho, hc, hd⟩ := id hit
  obtain ⟨ol, hol, _, nl, hdl⟩ := ht
  obtain ⟨hh, o1, vs1, h1, d1, c1⟩ := hot
  have ne : it ≠ x1 := fun z => by
    subst z
    rw [ho] at h1; cases h1
    rw [hd] at d1
    cases d1
    simp at c1
  unfold pyNext
  refine wpAny_bind (wpAny_attempt (wpAny_callSpecial?_slot (name := Str.ofString "__next__") hit.typeIs F.slot_tuple_iterator_next
    (wpAny_call_entry F.slot_tuple_iterator_next hit.typeIs F.entry_tuple_iterator_next ?_ (F.args_tuple_iterator_next_1 _))))
  show wpAny _ _ (field (.ref it) 0 >>= _) _ _ s
  refine wpAny_bind (wpAny_field ho hd (x := .ref t) rfl ?_)
  show wpAny _ _ (if (Value.ref t == Value.none) = true then _ else _) _ _ s
  rw [if_neg (show ¬ ((Value.ref t == Value.none) = true) from Bool.false_ne_true)]
  show wpAny _ _ (field (.ref it) 1 >>= _) _ _ s
  refine wpAny_bind (wpAny_field ho hd (x := .int i 0) rfl ?_)
  show wpAny _ _ (seqItems? (.ref t) >>= _) _ _ s
  refine wpAny_bind (wpAny_seqItems hol hdl ?_)
  simp only [Int.toNat_natCast, hx]
  refine wpAny_bind (wpAny_rule (wpAny_bind (wpAny_setField ho hd (by simp) ?_)))
  show wpAny _ _ (newExc (.type "StopIteration") [] >>= _) _ _ _
  refine wpAny_bind ?_
  simp only [newExc, newTuple]
  refine wpAny_bind (wpAny_newObj_type ?_ (by size_fits))
  refine wpAny_bind (m := firstArgMember _ _) (wpAny_of_eq (a := Value.none) (by first | rfl | (simp only [firstArgMember]; rfl)) ?_)
  refine wpAny_newObj_type ?_ (by size_fits)
  have k1 : ∀ b o, b ≠ it → s.heap.get? b = some o → (s.heap.update it (Obj.mapFields (·.setIfInBounds 0 Value.none))).get? b = some o := fun b o hb e => by
    rw [Heap.get?_update_other _ _ (Ne.symm hb)]; exact e
  refine raiseNew_hot ⟨hh, o1, vs1, Heap.get?_push_of_some _ (Heap.get?_push_of_some _ (k1 _ _ ne.symm h1)), d1, c1⟩ (Nat.ne_of_lt (Heap.lt_size (Heap.get?_push_of_some _ (k1 _ _ ne.symm h1)))) (Heap.get?_push_size _ rfl) rfl (by first | (simp; done) | (simp; omega) | (simp only [Array.size_append]; simp; omega)) ?_
  refine wpAny_bind (wpAny_isInstance (T := "StopIteration") (b := true) ⟨_, Heap.get?_update_self _ (Heap.get?_push_size _ rfl) rfl, rfl⟩ isSubtype_stop ?_)
  refine wpAny_pure (hQ _ fun b o hb e => ?_)
  rw [Heap.get?_update_other _ _ (Nat.ne_of_gt (Heap.lt_size (Heap.get?_push_of_some _ (k1 _ _ hb e))))]
  exact Heap.get?_push_of_some _ (Heap.get?_push_of_some _ (k1 _ _ hb e))
end
section
open PySem PySem.Spec PyProof.Rows HotX L2H
theorem turn_tupH {P : Program} {w : World} {K : PySem.W.Frag} {tg : Expr} (a it : Addr) : TurnH P w K tg (Itt K a) [it] it (fun i h => h.IsTupleIter it a i) where
  mem := by simp
  obj := fun i h st b hb => by
    have e : b = it := by simpa using hb
    subst e
    obtain ⟨o, e, c, d⟩ := st
    exact ⟨o, e, fun v z => by rw [d] at z; cases z⟩
  keep := fun i h h' st k => st.at fun o e => k it (by simp) o e
  item := by
    intro X hP hw hK hc i pins s σ H E I hf st hg
    subst hP hw hK
    obtain ⟨xs, x, hq, hx⟩ := hg
    obtain ⟨its, rv, p, hz⟩ := I.tuple hq
    obtain ⟨u, hu, ru⟩ := rv.get hx
    obtain ⟨f0, f1, f2, f3, f4, f5⟩ := hf it (by simp)
    refine wpAny_pyNext_tuple_item st (show s.heap.IsTuple a its.toArray from p) (x := u) (by simpa using hu) fun h' st' sb => ?_
    have I1 : Inv X pins σ H { s with heap := h' } := I.turned (t' := s.toks) (fun b o hb e => (sb.2 b hb).trans e) f0 f1 f3 f4 f5
    obtain ⟨o, e, c, d⟩ := id st'
    exact ⟨u, rfl, go_of (s := { s with heap := h' }) e c d (by decide) ⟨x, H, I1, ru, ⟨rfl, fun ys hy => by rw [I.tuple_inj hy hq]; exact hx⟩, st', fun b hb => (hf b hb).1⟩⟩
  done := by
    intro X hP hw hK hc i pins s σ H E I hf st hg
    subst hP hw hK
    obtain ⟨xs, hq, hx⟩ := hg
    obtain ⟨its, rv, p, hz⟩ := I.tuple hq
    obtain ⟨f0, f1, f2, f3, f4, f5⟩ := hf it (by simp)
    have hl := rv.length
    obtain ⟨x1, hot⟩ := hc.at I
    exact tup_end_hot hot st (show s.heap.IsTuple a its.toArray from p) (by simp; omega) fun h' eb => ⟨rfl, I.turned (t' := s.toks) (fun b o hb e => eb b o hb e) f0 f1 f3 f4 f5⟩
  self := fun _ _ _ _ _ st h => wpAny_pyIter_tupleiter st h
theorem pi_tupH {X : Cx} {tg l : Expr} {tl : TE} (hl : PE X l tl) : PIH X tg l (iTup X.K tl) := by
  refine ⟨fun pins s σ H R I h => ?_⟩
  refine thn (hl.run pins s σ H _ I h) fun v s1 ⟨x, H1, I1, r1, q1⟩ => ?_
  obtain ⟨a, e, ⟨xs, hq⟩, q⟩ := q1
  subst e
  cases r1
  obtain ⟨its, rv, p, hz⟩ := I1.tuple hq
  refine wpAny_pyIter_tuple (show s1.heap.IsTuple a its.toArray from p) ?_
  refine ⟨s1.heap.objs.size, [s1.heap.objs.size], _, _, H1, rfl, I1.kept (t' := s1.toks) fun b o e => Heap.get?_push_of_some _ e, turn_tupH a _, ⟨_, Heap.get?_push_size _ rfl, rfl, rfl⟩, fun b hb => ?_, q⟩
  have e : b = s1.heap.objs.size := by simpa using hb
  subst e
  exact I1.fpOk (Nat.le_refl _) (I1.hok.fresh (Nat.le_refl _))
end
/-- what a clause of two names wishes -/
def wPair (K : PySem.W.Frag) (c1 c2 : Value) (ts : Addr → Value → Option Addr → TS) (Wo : WX) (D : Ends) : WX := fun cl d σ H =>
  ∃ b1 b2, PySem.W.exmOne K cl c1 = some b1 ∧ PySem.W.exmOne K cl c2 = some b2 ∧ ((b1 || b2) = true → ∀ a, H a = none → ts a cl d D σ H) ∧ ((b1 || b2) = false → Wo cl d σ H)
section
open PySem PySem.Spec PyProof.Rows
variable {X : Cx} {body suite : List Stmt} {b0 : Stmt} {x1 x2 : Str} {c1 c2 : Value} {k : Nat} {q1 q2 qt pos pos' : Pos} {tb : WX → TS} {Wo : WX} {ts : Addr → Value → Option Addr → TS}
theorem ps_tryP (st : X.stack = X.env :: X.outer) (fr : X.env.frame = some X.env.locals) (n1 : Names X x1 c1) (n2 : Names X x2 c2) (tk : L2N.Takes X Wo)
    (hb : ∀ (W : WX) (pn : List (Addr × Obj)) (xe : Value → Shared → Prop), L2N.Takes (X.tr pn xe) W → PassesOwn (model X.prog X.w) X.A X.env xe → PSs (X.tr pn xe) body (tb W))
    (hs : ∀ (a : Addr) (o : Obj) (cl : Value) (d : Option Addr) (m : List (Addr × Obj)), L2N.Zn cl d o → (∃ us, o.data = .fields us) → PSs (X.suite a ((a, o) :: m)) (b0 :: suite) (ts a cl d)) :
    PS X (.Try body [.ExceptHandler (some (.Tuple [.Name x1 q1, .Name x2 q2] k qt)) none (b0 :: suite) pos'] [] [] pos) (fun D σ H => tb (wPair X.K c1 c2 ts Wo D) D σ H) := by
  refine ⟨fun pins s σ H D I hrd => ?_⟩
  have kk := I.ok
  have frs0 : X.A.frames = some (X.env :: X.outer) := by rw [kk.frames, st]
  refine wpAny_Try_except (wpAny_mono ((hb (wPair X.K c1 c2 ts Wo D) (X.pn ++ pins) (fun u z => wpAny (model X.prog X.w) X.A (noteFrame u X.env) (fun _ z2 => wpAny (model X.prog X.w) X.A (setFlight u none) (fun _ z3 => wpAny (model X.prog X.w) X.A (handleBy u X.env [.ExceptHandler (some (.Tuple [.Name x1 q1, .Name x2 q2] k qt)) none (b0 :: suite) pos']) (SP X pins D) X.xe z3) X.xe z2) X.xe z) (fun u s' xx => ?_) PassesOwn.looking).run [] s σ H D (I.toTry _) hrd) (fun f s1 hsp => ?_) (fun _ _ he => he))
  · obtain ⟨a, B, sI, pins', σ', H', cl, d, rfl, J0, nb, up, sky, na, osq, ag, w⟩ := xx
    have J : Inv X pins σ' H' sI := J0.ofTry kk
    rw [show X.stack = X.env :: X.outer from st] at sky
    show wpAny (model X.prog X.w) X.A (noteFrame (.ref a) X.env) _ _ _
    refine L2N.Sky.land L2N.Zn.steady frs0 fr sky fun h3 fl3 up3 => ?_
    have J3 : Inv X pins σ' H' { s' with heap := h3 } := J.landed nb fl3.1 (up.trans up3) osq ag
    obtain ⟨o3, v3, g3, z3, d3⟩ := fl3.there
    have off : a ∉ frs (X.env :: X.outer) := fun hm => by
      obtain ⟨_, o', e', hno⟩ := fl3.2.2.1.mem hm
      rw [g3] at e'; cases e'
      exact hno _ d3
    have offL : a ≠ X.env.locals := fun z => off (List.mem_filterMap.mpr ⟨X.env, List.mem_cons_self, by rw [fr, z]⟩)
    have offF : a ∉ X.fs := fun hm => by
      obtain ⟨e, he, q⟩ := List.mem_filterMap.mp hm
      exact off (List.mem_filterMap.mpr ⟨e, List.mem_cons_of_mem _ he, q⟩)
    have S3 := J3.suite g3 d3 na offL offF
    have ask : ∀ {x : Str} {c : Value} {np : Pos} {Q E : Value → Shared → Prop}, Names X x c → Q c { s' with heap := h3 } → wpAny (model X.prog X.w) (X.A.mark (some (.ref a))) (eval (.Name x np) X.env) Q E { s' with heap := h3 } := fun {x c np Q E} hc q => by
      obtain ⟨hg, hdbg, hm | ⟨hm, hv, hnn⟩⟩ := hc
      · exact ld_glob (X := X.suite a ((a, o3) :: (X.pn ++ pins))) S3 hg hm q hdbg
      · exact ld_blt (X := X.suite a ((a, o3) :: (X.pn ++ pins))) S3 hg hm hv q hnn hdbg
    obtain ⟨t1, t2, ht1, ht2, yes, no⟩ := w
    refine wpAny_handleBy_cons (codeAny_handlers_test (wpAny_Tuple_spliced ?_)) (by intro q; cases q)
    show wpAny _ _ (spliced ((false, eval (.Name x1 q1) X.env) :: (false, eval (.Name x2 q2) X.env) :: [])) _ _ _
    refine Calls.spliced_cons (ask n1 (Calls.spliced_cons (ask n2 (Calls.spliced_nil ⟨by show 2 ≤ sizeLine; decide, ?_⟩))))
    have kp : ∀ b o, h3.get? b = some o → (h3.push { cls := .type "tuple", data := .seq [c1, c2].toArray }).get? b = some o := fun b o e => Heap.get?_push_of_some _ e
    have tp : (h3.push { cls := .type "tuple", data := .seq [c1, c2].toArray }).get? h3.objs.size = some { cls := .type "tuple", data := .seq [c1, c2].toArray } := Heap.get?_push_size _ rfl
    have J4 : Inv X pins σ' H' { s' with heap := h3.push { cls := .type "tuple", data := .seq [c1, c2].toArray } } := J3.kept (t' := s'.toks) kp
    have fl4 : HandSPX.FlyingZ B (X.env :: X.outer) a (L2N.Zn cl d) (h3.push { cls := .type "tuple", data := .seq [c1, c2].toArray }) := by
      obtain ⟨f1, f2, f3, oe, vs, T, oT, ts', y1, y2, y3, y4, y5, y6, y7, y8, y9⟩ := fl3
      exact ⟨fun b o e => kp _ _ (f1 b o e), f2, Heap.FunFrames.of_keeps (fun b o e _ => ⟨o, kp _ _ e, rfl⟩) f3, oe, vs, T, oT, ts', kp _ _ y1, y2, y3, y4, y5, y6, kp _ _ y7, y8, y9⟩
    have up4 : h3.UpToSlots (h3.push { cls := .type "tuple", data := .seq [c1, c2].toArray }) := fun b o e _ => ⟨o.slots, kp _ _ e⟩
    generalize h3.push { cls := .type "tuple", data := .seq [c1, c2].toArray } = h4 at kp tp J4 fl4 up4
    have LT : PySem.W.Looks (model X.prog X.w) h4 (typeOf (.ref a)) cl := fun _ _ _ _ k q => wpAny_typeOf_ref (k _ _ (kp _ _ g3)) (by rw [z3.1]; exact q)
    have hx : PySem.W.exmAny X.K cl [c1, c2] = some (t1 || t2) := by
      unfold PySem.W.exmAny PySem.W.exmAny PySem.W.exmAny
      rw [ht1, ht2]
      cases t1 <;> cases t2 <;> rfl
    refine (PySem.W.exm_tup2 (M := model X.prog X.w) J4.kIn LT tp hx).here ?_
    cases et : (t1 || t2) with
    | true =>
      refine codeAny_handlers_suite (HandSPX.lands_againZ fl4 fun h5 fl5 up5 => ?_)
      have J5 : Inv X pins σ' H' { s' with heap := h5 } := J.landed nb fl5.1 (((up.trans up3).trans up4).trans up5) osq ag
      obtain ⟨o5, v5, g5, z5, d5⟩ := fl5.there
      refine wpAny_mono ((hs a o5 cl d (X.pn ++ pins) z5 ⟨_, d5⟩).run [] _ _ H' _ (J5.suite g5 d5 na offL offF) (yes et a na)) (fun f s6 hsp => ?_) (fun _ _ z => z.elim)
      cases f with
      | ret u => obtain ⟨v6, σ6, H6, S6, r6, q6⟩ := hsp; exact ⟨_, _, _, S6.unsuite kk, r6, q6⟩
      | _ => obtain ⟨σ6, H6, S6, q6⟩ := hsp; exact ⟨_, _, S6.unsuite kk, q6⟩
    | false =>
      show wpAny _ X.A (handleBy (.ref a) X.env []) _ _ _
      refine wpAny_handleBy_nil ?_
      obtain ⟨_, _, _, oe, vs, T, oT, ts', he, hz, hd, h1, hr⟩ := id fl4
      unfold PySem.passOn
      refine wpAny_bind (wpAny_field he hd h1 ?_)
      rw [if_neg (show ¬ ((Value.ref T == Value.none) = true) by simp)]
      have last : wpAny (model X.prog X.w) X.A (setFlight (.ref a) X.env.frame) (fun _ z4 => wpAny (model X.prog X.w) X.A (throw (.ref a) : Sem Flow) (SP X pins D) X.xe z4) X.xe { s' with heap := h4 } := by
        rw [fr]
        refine HandSPX.setFlight_upZ fl4 fun h5 hh5 up5 => wpAny_throw (tk _ _ ?_)
        exact ⟨a, B, sI, pins, σ', H', cl, d, rfl, J, nb, ((up.trans up3).trans up4).trans up5, .inr (.inr (by rw [st]; exact hh5)), na, osq, ag, no et⟩
      first
        | exact wpAny_bind (wpAny_pure (wpAny_bind last))
        | exact wpAny_bind last
  · cases f with
    | next => obtain ⟨σ', H', J0, q⟩ := hsp; exact wpAny_execs_nil ⟨σ', H', J0.ofTry kk, q⟩
    | ret u => obtain ⟨v, σ', H', J0, r, q⟩ := hsp; exact ⟨v, σ', H', J0.ofTry kk, r, q⟩
    | _ => obtain ⟨σ', H', J0, q⟩ := hsp; exact ⟨σ', H', J0.ofTry kk, q⟩
end

/-! ### a tuple taken apart in a hot place; an attribute as a target in it -/
section
open PySem PySem.Spec PyProof.Rows L2 HotX L2H
section
variable {P : Program} {w : World} {A : Around} {E : Value → Shared → Prop} {s : Shared}
theorem unpackItems_tupH {t x1 : Addr} {items : Array Value} {Q : List Value → Shared → Prop} (hot : HotAt A x1 s.heap) (ht : IsTup s.heap t items)
    (hQ : ∀ h', Heap.ExtBut s.heap.objs.size s.heap h' → Q items.toList { s with heap := h' }) : wpAny (model P w) A (unpackItems (.ref t) items.size none) Q E s := by
  have hlt : t ≠ s.heap.objs.size := by obtain ⟨o, ho, _⟩ := ht; exact Nat.ne_of_lt (Heap.lt_size ho)
  obtain ⟨hh, o1, vs1, h1, d1, c1⟩ := hot
  unfold unpackItems
  refine wpAny_bind ?_
  · unfold notIterableAtAll
    refine wpAny_bind (wpAny_specialOf ht.typeIs slot_tuple_iter.lookup ?_)
    refine wpAny_pure ?_
    simp only [Bool.false_eq_true, if_false]
    refine wpAny_bind (wpAny_holding (iter_tuple ht ?_))
    refine wpAny_bind (wpAny_holding (draw_tuple hlt items.size 0 _ _ ⟨_, Heap.get?_push_size _ rfl, rfl, rfl⟩ (ht.push _) (by omega) fun h₁ hit₁ hs₁ => ?_))
    have hall : List.take items.size (List.drop 0 items.toList) = items.toList := by
      rw [List.drop_zero]; exact List.take_of_length_le (by simp)
    rw [hall]
    rw [if_neg (by simp)]
    have ht₁ : IsTup h₁ t items := (ht.push _).extBut hs₁.extBut hlt
    have hot1 : HotAt A x1 h₁ := ⟨hh, o1, vs1, hs₁.extBut x1 o1 (Nat.ne_of_lt (Heap.lt_size h1)) (Heap.get?_push_of_some _ h1), d1, c1⟩
    refine wpAny_bind (wpAny_holding (tup_end_hot (i := items.size) hot1 (show h₁.IsTupleIter _ t items.size from (by have h0 := hit₁; rw [Nat.zero_add] at h0; exact h0)) ht₁ (by simp) fun h₂ he₂ => ?_))
    simp only [Option.isSome_none, Bool.false_eq_true, if_false]
    refine wpAny_pure (hQ h₂ fun b o hb e => he₂ b o hb (hs₁.extBut b o hb (Heap.get?_push_of_some _ e)))
end
section
variable {X : Cx} {pos : Pos}
theorem pg_tupH {es : List Expr} {k : Nat} {t : TGs} {n : Nat} (hc : HotC X) (h : PGs X es t)
    (hn : (assignEach es X.env).length = n := by rfl) (hst : (assignEach es X.env).findIdx? (·.1) = none := by rfl) : PG X (.Tuple es k pos) (gTup X.K n t) := by
  refine ⟨fun pins s σ H v u Q I r hw => ?_⟩
  obtain ⟨a, xs, e1, hq, hl, hw⟩ := hw
  subst e1
  cases r
  obtain ⟨its, rv, ht, hz⟩ := I.tuple hq
  obtain ⟨x1, hot⟩ := hc.at I
  have hsz : (assignEach es X.env).length = its.toArray.size := by simp [hn, ← hl, rv.length]
  rw [assign_Tuple]
  refine wpAny_bind (wpAny_standAt ?_)
  unfold unpack
  rw [hst]
  show wpAny _ _ (holding _ (unpackItems (.ref a) (assignEach es X.env).length none) >>= _) _ _ _
  rw [hsz]
  refine wpAny_bind (wpAny_holding (unpackItems_tupH (items := its.toArray) hot ht fun h' hx => ?_))
  have I1 : Inv X pins σ H { s with heap := h' } := I.kept (t' := s.toks) fun b o e => hx b o (Nat.ne_of_lt (Heap.lt_size e)) e
  exact h.run pins _ σ H xs _ Q I1 (by simpa using rv) hw
/-- o.f = .. -/
def gFld (K : PySem.W.Frag) (ta : TE) (f : Str) : TG := fun y σ H Q => ta σ H fun x H2 => ∃ a C dx fs, x = .ref a ∧ H2 a = some (.ins C dx fs) ∧ Cls K C ∧ NoAttr K C f ∧ fs.length < 1000 ∧ Q σ (upd H2 a (.ins C dx (putF f y fs)))
theorem pg_fld {o : Expr} {f : Str} {ta : TE} (ha : PE X o ta) : PG X (.Attribute o f pos) (gFld X.K ta f) := by
  refine ⟨fun pins s σ H v u Q I r h => ?_⟩
  rw [assign_Attribute]
  refine wpAny_bind (wpAny_holding (thn (ha.run pins s σ H _ I h) fun ov s2 ⟨x, H2, I2, rx, a, C, dx, fs, ex, ea, c, n, l, q2⟩ => ?_))
  subst ex
  obtain rfl : ov = Value.ref a := rx
  refine wpAny_bind (wpAny_standAt (wpAny_bind (wpAny_holding (setattr_ok I2 ea c n l r fun s3 I3 => ?_))))
  exact wpAny_release ⟨σ, _, I3, q2⟩
end
section
variable {X : Cx} {body suite : List Stmt} {b0 : Stmt} {x1 : Str} {c1 : Value} {q1 pos pos' : Pos} {tb : WX → TS} {Wo : WX} {ts : Addr → Value → Option Addr → TS}
theorem ps_try1 (st : X.stack = X.env :: X.outer) (fr : X.env.frame = some X.env.locals) (n1 : Names X x1 c1) (tk : L2N.Takes X Wo)
    (hb : ∀ (W : WX) (pn : List (Addr × Obj)) (xe : Value → Shared → Prop), L2N.Takes (X.tr pn xe) W → PassesOwn (model X.prog X.w) X.A X.env xe → PSs (X.tr pn xe) body (tb W))
    (hs : ∀ (a : Addr) (o : Obj) (cl : Value) (d : Option Addr) (m : List (Addr × Obj)), L2N.Zn cl d o → (∃ us, o.data = .fields us) → PSs (X.suite a ((a, o) :: m)) (b0 :: suite) (ts a cl d)) :
    PS X (.Try body [.ExceptHandler (some (.Name x1 q1)) none (b0 :: suite) pos'] [] [] pos) (fun D σ H => tb (wMany X.K Wo D [(c1, ts)]) D σ H) :=
  L2N.ps_try_many st fr tk hb (.cons n1 hs .nil)
theorem K_tr {pn : List (Addr × Obj)} {xe : Value → Shared → Prop} : (X.tr pn xe).K = X.K := rfl
theorem K_su {a : Addr} {pn : List (Addr × Obj)} : (X.suite a pn).K = X.K := rfl
theorem ps_try1x (st : X.stack = X.env :: X.outer) (fr : X.env.frame = some X.env.locals) (n1 : Names X x1 c1) (tk : L2N.Takes X Wo)
    (hb : ∀ (W : WX) (pn : List (Addr × Obj)) (xe : Value → Shared → Prop), L2N.Takes (X.tr pn xe) W → PassesOwn (model X.prog X.w) X.A X.env xe → ∃ t, PSs (X.tr pn xe) body t ∧ tb W = t)
    (hs : ∀ (a : Addr) (o : Obj) (cl : Value) (d : Option Addr) (m : List (Addr × Obj)), L2N.Zn cl d o → (∃ us, o.data = .fields us) → ∃ t, PSs (X.suite a ((a, o) :: m)) (b0 :: suite) t ∧ ts a cl d = t) :
    PS X (.Try body [.ExceptHandler (some (.Name x1 q1)) none (b0 :: suite) pos'] [] [] pos) (fun D σ H => tb (wMany X.K Wo D [(c1, ts)]) D σ H) :=
  ps_try1 st fr n1 tk (fun W pn xe a b => by obtain ⟨t, h, e⟩ := hb W pn xe a b; rw [e]; exact h) (fun a o cl d m x y => by obtain ⟨t, h, e⟩ := hs a o cl d m x y; rw [e]; exact h)
theorem ps_tryPx {x2 : Str} {c2 : Value} {q2 qt : Pos} {k : Nat} (st : X.stack = X.env :: X.outer) (fr : X.env.frame = some X.env.locals) (n1 : Names X x1 c1) (n2 : Names X x2 c2) (tk : L2N.Takes X Wo)
    (hb : ∀ (W : WX) (pn : List (Addr × Obj)) (xe : Value → Shared → Prop), L2N.Takes (X.tr pn xe) W → PassesOwn (model X.prog X.w) X.A X.env xe → ∃ t, PSs (X.tr pn xe) body t ∧ tb W = t)
    (hs : ∀ (a : Addr) (o : Obj) (cl : Value) (d : Option Addr) (m : List (Addr × Obj)), L2N.Zn cl d o → (∃ us, o.data = .fields us) → ∃ t, PSs (X.suite a ((a, o) :: m)) (b0 :: suite) t ∧ ts a cl d = t) :
    PS X (.Try body [.ExceptHandler (some (.Tuple [.Name x1 q1, .Name x2 q2] k qt)) none (b0 :: suite) pos'] [] [] pos) (fun D σ H => tb (wPair X.K c1 c2 ts Wo D) D σ H) :=
  ps_tryP st fr n1 n2 tk (fun W pn xe a b => by obtain ⟨t, h, e⟩ := hb W pn xe a b; rw [e]; exact h) (fun a o cl d m x y => by obtain ⟨t, h, e⟩ := hs a o cl d m x y; rw [e]; exact h)
end
end

theorem evF_e0_1 : (("_inputs" : Str) == "_taken") = false := by decide +kernel
theorem evF_q0_1 : (("_inputs" : Str) = "_taken") = False := by simp only [eq_iff_iff, iff_false]; decide +kernel
theorem evF_e0_2 : (("_inputs" : Str) == "_rows") = false := by decide +kernel
theorem evF_q0_2 : (("_inputs" : Str) = "_rows") = False := by simp only [eq_iff_iff, iff_false]; decide +kernel
theorem evF_e1_0 : (("_taken" : Str) == "_inputs") = false := by decide +kernel
theorem evF_q1_0 : (("_taken" : Str) = "_inputs") = False := by simp only [eq_iff_iff, iff_false]; decide +kernel
theorem evF_e1_2 : (("_taken" : Str) == "_rows") = false := by decide +kernel
theorem evF_q1_2 : (("_taken" : Str) = "_rows") = False := by simp only [eq_iff_iff, iff_false]; decide +kernel
theorem evF_e2_0 : (("_rows" : Str) == "_inputs") = false := by decide +kernel
theorem evF_q2_0 : (("_rows" : Str) = "_inputs") = False := by simp only [eq_iff_iff, iff_false]; decide +kernel
theorem evF_e2_1 : (("_rows" : Str) == "_taken") = false := by decide +kernel
theorem evF_q2_1 : (("_rows" : Str) = "_taken") = False := by simp only [eq_iff_iff, iff_false]; decide +kernel
def evF (x0 : Addr) (x1 : Int) (x2 : Addr) : List (Str × V) := [("_inputs", .ref x0), ("_taken", .int x1), ("_rows", .ref x2)]
theorem evF__inputs (x0 : Addr) (x1 : Int) (x2 : Addr) : (evF x0 x1 x2).lookup ("_inputs" : Str) = some (V.ref x0) := by simp [evF, List.lookup, evF]
theorem evF__taken (x0 : Addr) (x1 : Int) (x2 : Addr) : (evF x0 x1 x2).lookup ("_taken" : Str) = some (V.int x1) := by simp [evF, List.lookup, evF_e1_0]
theorem evF__rows (x0 : Addr) (x1 : Int) (x2 : Addr) : (evF x0 x1 x2).lookup ("_rows" : Str) = some (V.ref x2) := by simp [evF, List.lookup, evF_e2_0, evF_e2_1]
theorem evF_mput_0 : (("put" : Str) == "_inputs") = false := by decide +kernel
theorem evF_mput_1 : (("put" : Str) == "_taken") = false := by decide +kernel
theorem evF_mput_2 : (("put" : Str) == "_rows") = false := by decide +kernel
theorem evF_no_put (x0 : Addr) (x1 : Int) (x2 : Addr) : (evF x0 x1 x2).lookup ("put" : Str) = none := by simp [evF, List.lookup, evF_mput_0, evF_mput_1, evF_mput_2]
theorem evF_mget_0 : (("get" : Str) == "_inputs") = false := by decide +kernel
theorem evF_mget_1 : (("get" : Str) == "_taken") = false := by decide +kernel
theorem evF_mget_2 : (("get" : Str) == "_rows") = false := by decide +kernel
theorem evF_no_get (x0 : Addr) (x1 : Int) (x2 : Addr) : (evF x0 x1 x2).lookup ("get" : Str) = none := by simp [evF, List.lookup, evF_mget_0, evF_mget_1, evF_mget_2]
theorem evF_mrows_0 : (("rows" : Str) == "_inputs") = false := by decide +kernel
theorem evF_mrows_1 : (("rows" : Str) == "_taken") = false := by decide +kernel
theorem evF_mrows_2 : (("rows" : Str) == "_rows") = false := by decide +kernel
theorem evF_no_rows (x0 : Addr) (x1 : Int) (x2 : Addr) : (evF x0 x1 x2).lookup ("rows" : Str) = none := by simp [evF, List.lookup, evF_mrows_0, evF_mrows_1, evF_mrows_2]
theorem evF_put__inputs (x0 : Addr) (x1 : Int) (x2 : Addr) (y : Addr) : putF "_inputs" (V.ref y) (evF x0 x1 x2) = evF y x1 x2 := by simp [putF, evF, evF_q1_0, evF_q2_0]
theorem evF_put__taken (x0 : Addr) (x1 : Int) (x2 : Addr) (y : Int) : putF "_taken" (V.int y) (evF x0 x1 x2) = evF x0 y x2 := by simp [putF, evF, evF_q0_1, evF_q2_1]
theorem evF_put__rows (x0 : Addr) (x1 : Int) (x2 : Addr) (y : Addr) : putF "_rows" (V.ref y) (evF x0 x1 x2) = evF x0 x1 y := by simp [putF, evF, evF_q0_2, evF_q1_2]
theorem evF_mk (x0 : Addr) (x1 : Int) (x2 : Addr) : putF "_rows" (V.ref x2) (putF "_taken" (V.int x1) (putF "_inputs" (V.ref x0) [])) = evF x0 x1 x2 := by simp [putF, evF, evF_q0_1, evF_q0_2, evF_q1_0, evF_q1_2, evF_q2_0, evF_q2_1]
theorem evF_len1 (x0 : Addr) : (putF "_inputs" (V.ref x0) ([])).length < 1000 := by simp [putF, evF_q0_1, evF_q0_2, evF_q1_0, evF_q1_2, evF_q2_0, evF_q2_1]
theorem evF_len2 (x0 : Addr) (x1 : Int) : (putF "_taken" (V.int x1) (putF "_inputs" (V.ref x0) ([]))).length < 1000 := by simp [putF, evF_q0_1, evF_q0_2, evF_q1_0, evF_q1_2, evF_q2_0, evF_q2_1]
def fuF (x0 : Int) : List (Str × V) := [("_left", .int x0)]
theorem fuF__left (x0 : Int) : (fuF x0).lookup ("_left" : Str) = some (V.int x0) := by simp [fuF, List.lookup, fuF]
theorem fuF_mtick_0 : (("tick" : Str) == "_left") = false := by decide +kernel
theorem fuF_no_tick (x0 : Int) : (fuF x0).lookup ("tick" : Str) = none := by simp [fuF, List.lookup, fuF_mtick_0]
theorem fuF_mremaining_0 : (("remaining" : Str) == "_left") = false := by decide +kernel
theorem fuF_no_remaining (x0 : Int) : (fuF x0).lookup ("remaining" : Str) = none := by simp [fuF, List.lookup, fuF_mremaining_0]
theorem fuF_put__left (x0 : Int) (y : Int) : putF "_left" (V.int y) (fuF x0) = fuF y := by simp [putF, fuF, fuF]
theorem fuF_mk (x0 : Int) : putF "_left" (V.int x0) [] = fuF x0 := by simp [putF, fuF, ]
theorem lyF_e0_1 : (("where" : Str) == "initial") = false := by decide +kernel
theorem lyF_q0_1 : (("where" : Str) = "initial") = False := by simp only [eq_iff_iff, iff_false]; decide +kernel
theorem lyF_e0_2 : (("where" : Str) == "entrances") = false := by decide +kernel
theorem lyF_q0_2 : (("where" : Str) = "entrances") = False := by simp only [eq_iff_iff, iff_false]; decide +kernel
theorem lyF_e0_3 : (("where" : Str) == "cleared") = false := by decide +kernel
theorem lyF_q0_3 : (("where" : Str) = "cleared") = False := by simp only [eq_iff_iff, iff_false]; decide +kernel
theorem lyF_e1_0 : (("initial" : Str) == "where") = false := by decide +kernel
theorem lyF_q1_0 : (("initial" : Str) = "where") = False := by simp only [eq_iff_iff, iff_false]; decide +kernel
theorem lyF_e1_2 : (("initial" : Str) == "entrances") = false := by decide +kernel
theorem lyF_q1_2 : (("initial" : Str) = "entrances") = False := by simp only [eq_iff_iff, iff_false]; decide +kernel
theorem lyF_e1_3 : (("initial" : Str) == "cleared") = false := by decide +kernel
theorem lyF_q1_3 : (("initial" : Str) = "cleared") = False := by simp only [eq_iff_iff, iff_false]; decide +kernel
theorem lyF_e2_0 : (("entrances" : Str) == "where") = false := by decide +kernel
theorem lyF_q2_0 : (("entrances" : Str) = "where") = False := by simp only [eq_iff_iff, iff_false]; decide +kernel
theorem lyF_e2_1 : (("entrances" : Str) == "initial") = false := by decide +kernel
theorem lyF_q2_1 : (("entrances" : Str) = "initial") = False := by simp only [eq_iff_iff, iff_false]; decide +kernel
theorem lyF_e2_3 : (("entrances" : Str) == "cleared") = false := by decide +kernel
theorem lyF_q2_3 : (("entrances" : Str) = "cleared") = False := by simp only [eq_iff_iff, iff_false]; decide +kernel
theorem lyF_e3_0 : (("cleared" : Str) == "where") = false := by decide +kernel
theorem lyF_q3_0 : (("cleared" : Str) = "where") = False := by simp only [eq_iff_iff, iff_false]; decide +kernel
theorem lyF_e3_1 : (("cleared" : Str) == "initial") = false := by decide +kernel
theorem lyF_q3_1 : (("cleared" : Str) = "initial") = False := by simp only [eq_iff_iff, iff_false]; decide +kernel
theorem lyF_e3_2 : (("cleared" : Str) == "entrances") = false := by decide +kernel
theorem lyF_q3_2 : (("cleared" : Str) = "entrances") = False := by simp only [eq_iff_iff, iff_false]; decide +kernel
def lyF (x0 : Addr) (x1 : Addr) (x2 : Addr) (x3 : Addr) : List (Str × V) := [("where", .ref x0), ("initial", .ref x1), ("entrances", .ref x2), ("cleared", .ref x3)]
theorem lyF_where (x0 : Addr) (x1 : Addr) (x2 : Addr) (x3 : Addr) : (lyF x0 x1 x2 x3).lookup ("where" : Str) = some (V.ref x0) := by simp [lyF, List.lookup, lyF]
theorem lyF_initial (x0 : Addr) (x1 : Addr) (x2 : Addr) (x3 : Addr) : (lyF x0 x1 x2 x3).lookup ("initial" : Str) = some (V.ref x1) := by simp [lyF, List.lookup, lyF_e1_0]
theorem lyF_entrances (x0 : Addr) (x1 : Addr) (x2 : Addr) (x3 : Addr) : (lyF x0 x1 x2 x3).lookup ("entrances" : Str) = some (V.ref x2) := by simp [lyF, List.lookup, lyF_e2_0, lyF_e2_1]
theorem lyF_cleared (x0 : Addr) (x1 : Addr) (x2 : Addr) (x3 : Addr) : (lyF x0 x1 x2 x3).lookup ("cleared" : Str) = some (V.ref x3) := by simp [lyF, List.lookup, lyF_e3_0, lyF_e3_1, lyF_e3_2]
theorem lyF_put_where (x0 : Addr) (x1 : Addr) (x2 : Addr) (x3 : Addr) (y : Addr) : putF "where" (V.ref y) (lyF x0 x1 x2 x3) = lyF y x1 x2 x3 := by simp [putF, lyF, lyF_q1_0, lyF_q2_0, lyF_q3_0]
theorem lyF_put_initial (x0 : Addr) (x1 : Addr) (x2 : Addr) (x3 : Addr) (y : Addr) : putF "initial" (V.ref y) (lyF x0 x1 x2 x3) = lyF x0 y x2 x3 := by simp [putF, lyF, lyF_q0_1, lyF_q2_1, lyF_q3_1]
theorem lyF_put_entrances (x0 : Addr) (x1 : Addr) (x2 : Addr) (x3 : Addr) (y : Addr) : putF "entrances" (V.ref y) (lyF x0 x1 x2 x3) = lyF x0 x1 y x3 := by simp [putF, lyF, lyF_q0_2, lyF_q1_2, lyF_q3_2]
theorem lyF_put_cleared (x0 : Addr) (x1 : Addr) (x2 : Addr) (x3 : Addr) (y : Addr) : putF "cleared" (V.ref y) (lyF x0 x1 x2 x3) = lyF x0 x1 x2 y := by simp [putF, lyF, lyF_q0_3, lyF_q1_3, lyF_q2_3]
theorem lyF_mk (x0 : Addr) (x1 : Addr) (x2 : Addr) (x3 : Addr) : putF "cleared" (V.ref x3) (putF "entrances" (V.ref x2) (putF "initial" (V.ref x1) (putF "where" (V.ref x0) []))) = lyF x0 x1 x2 x3 := by simp [putF, lyF, lyF_q0_1, lyF_q0_2, lyF_q0_3, lyF_q1_0, lyF_q1_2, lyF_q1_3, lyF_q2_0, lyF_q2_1, lyF_q2_3, lyF_q3_0, lyF_q3_1, lyF_q3_2]
theorem lyF_len1 (x0 : Addr) : (putF "where" (V.ref x0) ([])).length < 1000 := by simp [putF, lyF_q0_1, lyF_q0_2, lyF_q0_3, lyF_q1_0, lyF_q1_2, lyF_q1_3, lyF_q2_0, lyF_q2_1, lyF_q2_3, lyF_q3_0, lyF_q3_1, lyF_q3_2]
theorem lyF_len2 (x0 : Addr) (x1 : Addr) : (putF "initial" (V.ref x1) (putF "where" (V.ref x0) ([]))).length < 1000 := by simp [putF, lyF_q0_1, lyF_q0_2, lyF_q0_3, lyF_q1_0, lyF_q1_2, lyF_q1_3, lyF_q2_0, lyF_q2_1, lyF_q2_3, lyF_q3_0, lyF_q3_1, lyF_q3_2]
theorem lyF_len3 (x0 : Addr) (x1 : Addr) (x2 : Addr) : (putF "entrances" (V.ref x2) (putF "initial" (V.ref x1) (putF "where" (V.ref x0) ([])))).length < 1000 := by simp [putF, lyF_q0_1, lyF_q0_2, lyF_q0_3, lyF_q1_0, lyF_q1_2, lyF_q1_3, lyF_q2_0, lyF_q2_1, lyF_q2_3, lyF_q3_0, lyF_q3_1, lyF_q3_2]
theorem acF_e0_1 : (("number" : Str) == "unit") = false := by decide +kernel
theorem acF_q0_1 : (("number" : Str) = "unit") = False := by simp only [eq_iff_iff, iff_false]; decide +kernel
theorem acF_e0_2 : (("number" : Str) == "where") = false := by decide +kernel
theorem acF_q0_2 : (("number" : Str) = "where") = False := by simp only [eq_iff_iff, iff_false]; decide +kernel
theorem acF_e0_3 : (("number" : Str) == "words") = false := by decide +kernel
theorem acF_q0_3 : (("number" : Str) = "words") = False := by simp only [eq_iff_iff, iff_false]; decide +kernel
theorem acF_e0_4 : (("number" : Str) == "cells") = false := by decide +kernel
theorem acF_q0_4 : (("number" : Str) = "cells") = False := by simp only [eq_iff_iff, iff_false]; decide +kernel
theorem acF_e0_5 : (("number" : Str) == "link") = false := by decide +kernel
theorem acF_q0_5 : (("number" : Str) = "link") = False := by simp only [eq_iff_iff, iff_false]; decide +kernel
theorem acF_e0_6 : (("number" : Str) == "caller") = false := by decide +kernel
theorem acF_q0_6 : (("number" : Str) = "caller") = False := by simp only [eq_iff_iff, iff_false]; decide +kernel
theorem acF_e0_7 : (("number" : Str) == "depth") = false := by decide +kernel
theorem acF_q0_7 : (("number" : Str) = "depth") = False := by simp only [eq_iff_iff, iff_false]; decide +kernel
theorem acF_e0_8 : (("number" : Str) == "index") = false := by decide +kernel
theorem acF_q0_8 : (("number" : Str) = "index") = False := by simp only [eq_iff_iff, iff_false]; decide +kernel
theorem acF_e1_0 : (("unit" : Str) == "number") = false := by decide +kernel
theorem acF_q1_0 : (("unit" : Str) = "number") = False := by simp only [eq_iff_iff, iff_false]; decide +kernel
theorem acF_e1_2 : (("unit" : Str) == "where") = false := by decide +kernel
theorem acF_q1_2 : (("unit" : Str) = "where") = False := by simp only [eq_iff_iff, iff_false]; decide +kernel
theorem acF_e1_3 : (("unit" : Str) == "words") = false := by decide +kernel
theorem acF_q1_3 : (("unit" : Str) = "words") = False := by simp only [eq_iff_iff, iff_false]; decide +kernel
theorem acF_e1_4 : (("unit" : Str) == "cells") = false := by decide +kernel
theorem acF_q1_4 : (("unit" : Str) = "cells") = False := by simp only [eq_iff_iff, iff_false]; decide +kernel
theorem acF_e1_5 : (("unit" : Str) == "link") = false := by decide +kernel
theorem acF_q1_5 : (("unit" : Str) = "link") = False := by simp only [eq_iff_iff, iff_false]; decide +kernel
theorem acF_e1_6 : (("unit" : Str) == "caller") = false := by decide +kernel
theorem acF_q1_6 : (("unit" : Str) = "caller") = False := by simp only [eq_iff_iff, iff_false]; decide +kernel
theorem acF_e1_7 : (("unit" : Str) == "depth") = false := by decide +kernel
theorem acF_q1_7 : (("unit" : Str) = "depth") = False := by simp only [eq_iff_iff, iff_false]; decide +kernel
theorem acF_e1_8 : (("unit" : Str) == "index") = false := by decide +kernel
theorem acF_q1_8 : (("unit" : Str) = "index") = False := by simp only [eq_iff_iff, iff_false]; decide +kernel
theorem acF_e2_0 : (("where" : Str) == "number") = false := by decide +kernel
theorem acF_q2_0 : (("where" : Str) = "number") = False := by simp only [eq_iff_iff, iff_false]; decide +kernel
theorem acF_e2_1 : (("where" : Str) == "unit") = false := by decide +kernel
theorem acF_q2_1 : (("where" : Str) = "unit") = False := by simp only [eq_iff_iff, iff_false]; decide +kernel
theorem acF_e2_3 : (("where" : Str) == "words") = false := by decide +kernel
theorem acF_q2_3 : (("where" : Str) = "words") = False := by simp only [eq_iff_iff, iff_false]; decide +kernel
theorem acF_e2_4 : (("where" : Str) == "cells") = false := by decide +kernel
theorem acF_q2_4 : (("where" : Str) = "cells") = False := by simp only [eq_iff_iff, iff_false]; decide +kernel
theorem acF_e2_5 : (("where" : Str) == "link") = false := by decide +kernel
theorem acF_q2_5 : (("where" : Str) = "link") = False := by simp only [eq_iff_iff, iff_false]; decide +kernel
theorem acF_e2_6 : (("where" : Str) == "caller") = false := by decide +kernel
theorem acF_q2_6 : (("where" : Str) = "caller") = False := by simp only [eq_iff_iff, iff_false]; decide +kernel
theorem acF_e2_7 : (("where" : Str) == "depth") = false := by decide +kernel
theorem acF_q2_7 : (("where" : Str) = "depth") = False := by simp only [eq_iff_iff, iff_false]; decide +kernel
theorem acF_e2_8 : (("where" : Str) == "index") = false := by decide +kernel
theorem acF_q2_8 : (("where" : Str) = "index") = False := by simp only [eq_iff_iff, iff_false]; decide +kernel
theorem acF_e3_0 : (("words" : Str) == "number") = false := by decide +kernel
theorem acF_q3_0 : (("words" : Str) = "number") = False := by simp only [eq_iff_iff, iff_false]; decide +kernel
theorem acF_e3_1 : (("words" : Str) == "unit") = false := by decide +kernel
theorem acF_q3_1 : (("words" : Str) = "unit") = False := by simp only [eq_iff_iff, iff_false]; decide +kernel
theorem acF_e3_2 : (("words" : Str) == "where") = false := by decide +kernel
theorem acF_q3_2 : (("words" : Str) = "where") = False := by simp only [eq_iff_iff, iff_false]; decide +kernel
theorem acF_e3_4 : (("words" : Str) == "cells") = false := by decide +kernel
theorem acF_q3_4 : (("words" : Str) = "cells") = False := by simp only [eq_iff_iff, iff_false]; decide +kernel
theorem acF_e3_5 : (("words" : Str) == "link") = false := by decide +kernel
theorem acF_q3_5 : (("words" : Str) = "link") = False := by simp only [eq_iff_iff, iff_false]; decide +kernel
theorem acF_e3_6 : (("words" : Str) == "caller") = false := by decide +kernel
theorem acF_q3_6 : (("words" : Str) = "caller") = False := by simp only [eq_iff_iff, iff_false]; decide +kernel
theorem acF_e3_7 : (("words" : Str) == "depth") = false := by decide +kernel
theorem acF_q3_7 : (("words" : Str) = "depth") = False := by simp only [eq_iff_iff, iff_false]; decide +kernel
theorem acF_e3_8 : (("words" : Str) == "index") = false := by decide +kernel
theorem acF_q3_8 : (("words" : Str) = "index") = False := by simp only [eq_iff_iff, iff_false]; decide +kernel
theorem acF_e4_0 : (("cells" : Str) == "number") = false := by decide +kernel
theorem acF_q4_0 : (("cells" : Str) = "number") = False := by simp only [eq_iff_iff, iff_false]; decide +kernel
theorem acF_e4_1 : (("cells" : Str) == "unit") = false := by decide +kernel
theorem acF_q4_1 : (("cells" : Str) = "unit") = False := by simp only [eq_iff_iff, iff_false]; decide +kernel
theorem acF_e4_2 : (("cells" : Str) == "where") = false := by decide +kernel
theorem acF_q4_2 : (("cells" : Str) = "where") = False := by simp only [eq_iff_iff, iff_false]; decide +kernel
theorem acF_e4_3 : (("cells" : Str) == "words") = false := by decide +kernel
theorem acF_q4_3 : (("cells" : Str) = "words") = False := by simp only [eq_iff_iff, iff_false]; decide +kernel
theorem acF_e4_5 : (("cells" : Str) == "link") = false := by decide +kernel
theorem acF_q4_5 : (("cells" : Str) = "link") = False := by simp only [eq_iff_iff, iff_false]; decide +kernel
theorem acF_e4_6 : (("cells" : Str) == "caller") = false := by decide +kernel
theorem acF_q4_6 : (("cells" : Str) = "caller") = False := by simp only [eq_iff_iff, iff_false]; decide +kernel
theorem acF_e4_7 : (("cells" : Str) == "depth") = false := by decide +kernel
theorem acF_q4_7 : (("cells" : Str) = "depth") = False := by simp only [eq_iff_iff, iff_false]; decide +kernel
theorem acF_e4_8 : (("cells" : Str) == "index") = false := by decide +kernel
theorem acF_q4_8 : (("cells" : Str) = "index") = False := by simp only [eq_iff_iff, iff_false]; decide +kernel
theorem acF_e5_0 : (("link" : Str) == "number") = false := by decide +kernel
theorem acF_q5_0 : (("link" : Str) = "number") = False := by simp only [eq_iff_iff, iff_false]; decide +kernel
theorem acF_e5_1 : (("link" : Str) == "unit") = false := by decide +kernel
theorem acF_q5_1 : (("link" : Str) = "unit") = False := by simp only [eq_iff_iff, iff_false]; decide +kernel
theorem acF_e5_2 : (("link" : Str) == "where") = false := by decide +kernel
theorem acF_q5_2 : (("link" : Str) = "where") = False := by simp only [eq_iff_iff, iff_false]; decide +kernel
theorem acF_e5_3 : (("link" : Str) == "words") = false := by decide +kernel
theorem acF_q5_3 : (("link" : Str) = "words") = False := by simp only [eq_iff_iff, iff_false]; decide +kernel
theorem acF_e5_4 : (("link" : Str) == "cells") = false := by decide +kernel
theorem acF_q5_4 : (("link" : Str) = "cells") = False := by simp only [eq_iff_iff, iff_false]; decide +kernel
theorem acF_e5_6 : (("link" : Str) == "caller") = false := by decide +kernel
theorem acF_q5_6 : (("link" : Str) = "caller") = False := by simp only [eq_iff_iff, iff_false]; decide +kernel
theorem acF_e5_7 : (("link" : Str) == "depth") = false := by decide +kernel
theorem acF_q5_7 : (("link" : Str) = "depth") = False := by simp only [eq_iff_iff, iff_false]; decide +kernel
theorem acF_e5_8 : (("link" : Str) == "index") = false := by decide +kernel
theorem acF_q5_8 : (("link" : Str) = "index") = False := by simp only [eq_iff_iff, iff_false]; decide +kernel
theorem acF_e6_0 : (("caller" : Str) == "number") = false := by decide +kernel
theorem acF_q6_0 : (("caller" : Str) = "number") = False := by simp only [eq_iff_iff, iff_false]; decide +kernel
theorem acF_e6_1 : (("caller" : Str) == "unit") = false := by decide +kernel
theorem acF_q6_1 : (("caller" : Str) = "unit") = False := by simp only [eq_iff_iff, iff_false]; decide +kernel
theorem acF_e6_2 : (("caller" : Str) == "where") = false := by decide +kernel
theorem acF_q6_2 : (("caller" : Str) = "where") = False := by simp only [eq_iff_iff, iff_false]; decide +kernel
theorem acF_e6_3 : (("caller" : Str) == "words") = false := by decide +kernel
theorem acF_q6_3 : (("caller" : Str) = "words") = False := by simp only [eq_iff_iff, iff_false]; decide +kernel
theorem acF_e6_4 : (("caller" : Str) == "cells") = false := by decide +kernel
theorem acF_q6_4 : (("caller" : Str) = "cells") = False := by simp only [eq_iff_iff, iff_false]; decide +kernel
theorem acF_e6_5 : (("caller" : Str) == "link") = false := by decide +kernel
theorem acF_q6_5 : (("caller" : Str) = "link") = False := by simp only [eq_iff_iff, iff_false]; decide +kernel
theorem acF_e6_7 : (("caller" : Str) == "depth") = false := by decide +kernel
theorem acF_q6_7 : (("caller" : Str) = "depth") = False := by simp only [eq_iff_iff, iff_false]; decide +kernel
theorem acF_e6_8 : (("caller" : Str) == "index") = false := by decide +kernel
theorem acF_q6_8 : (("caller" : Str) = "index") = False := by simp only [eq_iff_iff, iff_false]; decide +kernel
theorem acF_e7_0 : (("depth" : Str) == "number") = false := by decide +kernel
theorem acF_q7_0 : (("depth" : Str) = "number") = False := by simp only [eq_iff_iff, iff_false]; decide +kernel
theorem acF_e7_1 : (("depth" : Str) == "unit") = false := by decide +kernel
theorem acF_q7_1 : (("depth" : Str) = "unit") = False := by simp only [eq_iff_iff, iff_false]; decide +kernel
theorem acF_e7_2 : (("depth" : Str) == "where") = false := by decide +kernel
theorem acF_q7_2 : (("depth" : Str) = "where") = False := by simp only [eq_iff_iff, iff_false]; decide +kernel
theorem acF_e7_3 : (("depth" : Str) == "words") = false := by decide +kernel
theorem acF_q7_3 : (("depth" : Str) = "words") = False := by simp only [eq_iff_iff, iff_false]; decide +kernel
theorem acF_e7_4 : (("depth" : Str) == "cells") = false := by decide +kernel
theorem acF_q7_4 : (("depth" : Str) = "cells") = False := by simp only [eq_iff_iff, iff_false]; decide +kernel
theorem acF_e7_5 : (("depth" : Str) == "link") = false := by decide +kernel
theorem acF_q7_5 : (("depth" : Str) = "link") = False := by simp only [eq_iff_iff, iff_false]; decide +kernel
theorem acF_e7_6 : (("depth" : Str) == "caller") = false := by decide +kernel
theorem acF_q7_6 : (("depth" : Str) = "caller") = False := by simp only [eq_iff_iff, iff_false]; decide +kernel
theorem acF_e7_8 : (("depth" : Str) == "index") = false := by decide +kernel
theorem acF_q7_8 : (("depth" : Str) = "index") = False := by simp only [eq_iff_iff, iff_false]; decide +kernel
theorem acF_e8_0 : (("index" : Str) == "number") = false := by decide +kernel
theorem acF_q8_0 : (("index" : Str) = "number") = False := by simp only [eq_iff_iff, iff_false]; decide +kernel
theorem acF_e8_1 : (("index" : Str) == "unit") = false := by decide +kernel
theorem acF_q8_1 : (("index" : Str) = "unit") = False := by simp only [eq_iff_iff, iff_false]; decide +kernel
theorem acF_e8_2 : (("index" : Str) == "where") = false := by decide +kernel
theorem acF_q8_2 : (("index" : Str) = "where") = False := by simp only [eq_iff_iff, iff_false]; decide +kernel
theorem acF_e8_3 : (("index" : Str) == "words") = false := by decide +kernel
theorem acF_q8_3 : (("index" : Str) = "words") = False := by simp only [eq_iff_iff, iff_false]; decide +kernel
theorem acF_e8_4 : (("index" : Str) == "cells") = false := by decide +kernel
theorem acF_q8_4 : (("index" : Str) = "cells") = False := by simp only [eq_iff_iff, iff_false]; decide +kernel
theorem acF_e8_5 : (("index" : Str) == "link") = false := by decide +kernel
theorem acF_q8_5 : (("index" : Str) = "link") = False := by simp only [eq_iff_iff, iff_false]; decide +kernel
theorem acF_e8_6 : (("index" : Str) == "caller") = false := by decide +kernel
theorem acF_q8_6 : (("index" : Str) = "caller") = False := by simp only [eq_iff_iff, iff_false]; decide +kernel
theorem acF_e8_7 : (("index" : Str) == "depth") = false := by decide +kernel
theorem acF_q8_7 : (("index" : Str) = "depth") = False := by simp only [eq_iff_iff, iff_false]; decide +kernel
def acF (x0 : Int) (x1 : Addr) (x2 : Addr) (x3 : Addr) (x4 : Addr) (x5 : V) (x6 : V) (x7 : Int) (x8 : Int) : List (Str × V) := [("number", .int x0), ("unit", .ref x1), ("where", .ref x2), ("words", .ref x3), ("cells", .ref x4), ("link", x5), ("caller", x6), ("depth", .int x7), ("index", .int x8)]
theorem acF_number (x0 : Int) (x1 : Addr) (x2 : Addr) (x3 : Addr) (x4 : Addr) (x5 : V) (x6 : V) (x7 : Int) (x8 : Int) : (acF x0 x1 x2 x3 x4 x5 x6 x7 x8).lookup ("number" : Str) = some (V.int x0) := by simp [acF, List.lookup, acF]
theorem acF_unit (x0 : Int) (x1 : Addr) (x2 : Addr) (x3 : Addr) (x4 : Addr) (x5 : V) (x6 : V) (x7 : Int) (x8 : Int) : (acF x0 x1 x2 x3 x4 x5 x6 x7 x8).lookup ("unit" : Str) = some (V.ref x1) := by simp [acF, List.lookup, acF_e1_0]
theorem acF_where (x0 : Int) (x1 : Addr) (x2 : Addr) (x3 : Addr) (x4 : Addr) (x5 : V) (x6 : V) (x7 : Int) (x8 : Int) : (acF x0 x1 x2 x3 x4 x5 x6 x7 x8).lookup ("where" : Str) = some (V.ref x2) := by simp [acF, List.lookup, acF_e2_0, acF_e2_1]
theorem acF_words (x0 : Int) (x1 : Addr) (x2 : Addr) (x3 : Addr) (x4 : Addr) (x5 : V) (x6 : V) (x7 : Int) (x8 : Int) : (acF x0 x1 x2 x3 x4 x5 x6 x7 x8).lookup ("words" : Str) = some (V.ref x3) := by simp [acF, List.lookup, acF_e3_0, acF_e3_1, acF_e3_2]
theorem acF_cells (x0 : Int) (x1 : Addr) (x2 : Addr) (x3 : Addr) (x4 : Addr) (x5 : V) (x6 : V) (x7 : Int) (x8 : Int) : (acF x0 x1 x2 x3 x4 x5 x6 x7 x8).lookup ("cells" : Str) = some (V.ref x4) := by simp [acF, List.lookup, acF_e4_0, acF_e4_1, acF_e4_2, acF_e4_3]
theorem acF_link (x0 : Int) (x1 : Addr) (x2 : Addr) (x3 : Addr) (x4 : Addr) (x5 : V) (x6 : V) (x7 : Int) (x8 : Int) : (acF x0 x1 x2 x3 x4 x5 x6 x7 x8).lookup ("link" : Str) = some (x5) := by simp [acF, List.lookup, acF_e5_0, acF_e5_1, acF_e5_2, acF_e5_3, acF_e5_4]
theorem acF_caller (x0 : Int) (x1 : Addr) (x2 : Addr) (x3 : Addr) (x4 : Addr) (x5 : V) (x6 : V) (x7 : Int) (x8 : Int) : (acF x0 x1 x2 x3 x4 x5 x6 x7 x8).lookup ("caller" : Str) = some (x6) := by simp [acF, List.lookup, acF_e6_0, acF_e6_1, acF_e6_2, acF_e6_3, acF_e6_4, acF_e6_5]
theorem acF_depth (x0 : Int) (x1 : Addr) (x2 : Addr) (x3 : Addr) (x4 : Addr) (x5 : V) (x6 : V) (x7 : Int) (x8 : Int) : (acF x0 x1 x2 x3 x4 x5 x6 x7 x8).lookup ("depth" : Str) = some (V.int x7) := by simp [acF, List.lookup, acF_e7_0, acF_e7_1, acF_e7_2, acF_e7_3, acF_e7_4, acF_e7_5, acF_e7_6]
theorem acF_index (x0 : Int) (x1 : Addr) (x2 : Addr) (x3 : Addr) (x4 : Addr) (x5 : V) (x6 : V) (x7 : Int) (x8 : Int) : (acF x0 x1 x2 x3 x4 x5 x6 x7 x8).lookup ("index" : Str) = some (V.int x8) := by simp [acF, List.lookup, acF_e8_0, acF_e8_1, acF_e8_2, acF_e8_3, acF_e8_4, acF_e8_5, acF_e8_6, acF_e8_7]
theorem acF_mvalue_0 : (("value" : Str) == "number") = false := by decide +kernel
theorem acF_mvalue_1 : (("value" : Str) == "unit") = false := by decide +kernel
theorem acF_mvalue_2 : (("value" : Str) == "where") = false := by decide +kernel
theorem acF_mvalue_3 : (("value" : Str) == "words") = false := by decide +kernel
theorem acF_mvalue_4 : (("value" : Str) == "cells") = false := by decide +kernel
theorem acF_mvalue_5 : (("value" : Str) == "link") = false := by decide +kernel
theorem acF_mvalue_6 : (("value" : Str) == "caller") = false := by decide +kernel
theorem acF_mvalue_7 : (("value" : Str) == "depth") = false := by decide +kernel
theorem acF_mvalue_8 : (("value" : Str) == "index") = false := by decide +kernel
theorem acF_no_value (x0 : Int) (x1 : Addr) (x2 : Addr) (x3 : Addr) (x4 : Addr) (x5 : V) (x6 : V) (x7 : Int) (x8 : Int) : (acF x0 x1 x2 x3 x4 x5 x6 x7 x8).lookup ("value" : Str) = none := by simp [acF, List.lookup, acF_mvalue_0, acF_mvalue_1, acF_mvalue_2, acF_mvalue_3, acF_mvalue_4, acF_mvalue_5, acF_mvalue_6, acF_mvalue_7, acF_mvalue_8]
theorem acF_mwrite_0 : (("write" : Str) == "number") = false := by decide +kernel
theorem acF_mwrite_1 : (("write" : Str) == "unit") = false := by decide +kernel
theorem acF_mwrite_2 : (("write" : Str) == "where") = false := by decide +kernel
theorem acF_mwrite_3 : (("write" : Str) == "words") = false := by decide +kernel
theorem acF_mwrite_4 : (("write" : Str) == "cells") = false := by decide +kernel
theorem acF_mwrite_5 : (("write" : Str) == "link") = false := by decide +kernel
theorem acF_mwrite_6 : (("write" : Str) == "caller") = false := by decide +kernel
theorem acF_mwrite_7 : (("write" : Str) == "depth") = false := by decide +kernel
theorem acF_mwrite_8 : (("write" : Str) == "index") = false := by decide +kernel
theorem acF_no_write (x0 : Int) (x1 : Addr) (x2 : Addr) (x3 : Addr) (x4 : Addr) (x5 : V) (x6 : V) (x7 : Int) (x8 : Int) : (acF x0 x1 x2 x3 x4 x5 x6 x7 x8).lookup ("write" : Str) = none := by simp [acF, List.lookup, acF_mwrite_0, acF_mwrite_1, acF_mwrite_2, acF_mwrite_3, acF_mwrite_4, acF_mwrite_5, acF_mwrite_6, acF_mwrite_7, acF_mwrite_8]
theorem acF_moutward_0 : (("outward" : Str) == "number") = false := by decide +kernel
theorem acF_moutward_1 : (("outward" : Str) == "unit") = false := by decide +kernel
theorem acF_moutward_2 : (("outward" : Str) == "where") = false := by decide +kernel
theorem acF_moutward_3 : (("outward" : Str) == "words") = false := by decide +kernel
theorem acF_moutward_4 : (("outward" : Str) == "cells") = false := by decide +kernel
theorem acF_moutward_5 : (("outward" : Str) == "link") = false := by decide +kernel
theorem acF_moutward_6 : (("outward" : Str) == "caller") = false := by decide +kernel
theorem acF_moutward_7 : (("outward" : Str) == "depth") = false := by decide +kernel
theorem acF_moutward_8 : (("outward" : Str) == "index") = false := by decide +kernel
theorem acF_no_outward (x0 : Int) (x1 : Addr) (x2 : Addr) (x3 : Addr) (x4 : Addr) (x5 : V) (x6 : V) (x7 : Int) (x8 : Int) : (acF x0 x1 x2 x3 x4 x5 x6 x7 x8).lookup ("outward" : Str) = none := by simp [acF, List.lookup, acF_moutward_0, acF_moutward_1, acF_moutward_2, acF_moutward_3, acF_moutward_4, acF_moutward_5, acF_moutward_6, acF_moutward_7, acF_moutward_8]
theorem acF_put_number (x0 : Int) (x1 : Addr) (x2 : Addr) (x3 : Addr) (x4 : Addr) (x5 : V) (x6 : V) (x7 : Int) (x8 : Int) (y : Int) : putF "number" (V.int y) (acF x0 x1 x2 x3 x4 x5 x6 x7 x8) = acF y x1 x2 x3 x4 x5 x6 x7 x8 := by simp [putF, acF, acF_q1_0, acF_q2_0, acF_q3_0, acF_q4_0, acF_q5_0, acF_q6_0, acF_q7_0, acF_q8_0]
theorem acF_put_unit (x0 : Int) (x1 : Addr) (x2 : Addr) (x3 : Addr) (x4 : Addr) (x5 : V) (x6 : V) (x7 : Int) (x8 : Int) (y : Addr) : putF "unit" (V.ref y) (acF x0 x1 x2 x3 x4 x5 x6 x7 x8) = acF x0 y x2 x3 x4 x5 x6 x7 x8 := by simp [putF, acF, acF_q0_1, acF_q2_1, acF_q3_1, acF_q4_1, acF_q5_1, acF_q6_1, acF_q7_1, acF_q8_1]
theorem acF_put_where (x0 : Int) (x1 : Addr) (x2 : Addr) (x3 : Addr) (x4 : Addr) (x5 : V) (x6 : V) (x7 : Int) (x8 : Int) (y : Addr) : putF "where" (V.ref y) (acF x0 x1 x2 x3 x4 x5 x6 x7 x8) = acF x0 x1 y x3 x4 x5 x6 x7 x8 := by simp [putF, acF, acF_q0_2, acF_q1_2, acF_q3_2, acF_q4_2, acF_q5_2, acF_q6_2, acF_q7_2, acF_q8_2]
theorem acF_put_words (x0 : Int) (x1 : Addr) (x2 : Addr) (x3 : Addr) (x4 : Addr) (x5 : V) (x6 : V) (x7 : Int) (x8 : Int) (y : Addr) : putF "words" (V.ref y) (acF x0 x1 x2 x3 x4 x5 x6 x7 x8) = acF x0 x1 x2 y x4 x5 x6 x7 x8 := by simp [putF, acF, acF_q0_3, acF_q1_3, acF_q2_3, acF_q4_3, acF_q5_3, acF_q6_3, acF_q7_3, acF_q8_3]
theorem acF_put_cells (x0 : Int) (x1 : Addr) (x2 : Addr) (x3 : Addr) (x4 : Addr) (x5 : V) (x6 : V) (x7 : Int) (x8 : Int) (y : Addr) : putF "cells" (V.ref y) (acF x0 x1 x2 x3 x4 x5 x6 x7 x8) = acF x0 x1 x2 x3 y x5 x6 x7 x8 := by simp [putF, acF, acF_q0_4, acF_q1_4, acF_q2_4, acF_q3_4, acF_q5_4, acF_q6_4, acF_q7_4, acF_q8_4]
theorem acF_put_link (x0 : Int) (x1 : Addr) (x2 : Addr) (x3 : Addr) (x4 : Addr) (x5 : V) (x6 : V) (x7 : Int) (x8 : Int) (y : V) : putF "link" (y) (acF x0 x1 x2 x3 x4 x5 x6 x7 x8) = acF x0 x1 x2 x3 x4 y x6 x7 x8 := by simp [putF, acF, acF_q0_5, acF_q1_5, acF_q2_5, acF_q3_5, acF_q4_5, acF_q6_5, acF_q7_5, acF_q8_5]
theorem acF_put_caller (x0 : Int) (x1 : Addr) (x2 : Addr) (x3 : Addr) (x4 : Addr) (x5 : V) (x6 : V) (x7 : Int) (x8 : Int) (y : V) : putF "caller" (y) (acF x0 x1 x2 x3 x4 x5 x6 x7 x8) = acF x0 x1 x2 x3 x4 x5 y x7 x8 := by simp [putF, acF, acF_q0_6, acF_q1_6, acF_q2_6, acF_q3_6, acF_q4_6, acF_q5_6, acF_q7_6, acF_q8_6]
theorem acF_put_depth (x0 : Int) (x1 : Addr) (x2 : Addr) (x3 : Addr) (x4 : Addr) (x5 : V) (x6 : V) (x7 : Int) (x8 : Int) (y : Int) : putF "depth" (V.int y) (acF x0 x1 x2 x3 x4 x5 x6 x7 x8) = acF x0 x1 x2 x3 x4 x5 x6 y x8 := by simp [putF, acF, acF_q0_7, acF_q1_7, acF_q2_7, acF_q3_7, acF_q4_7, acF_q5_7, acF_q6_7, acF_q8_7]
theorem acF_put_index (x0 : Int) (x1 : Addr) (x2 : Addr) (x3 : Addr) (x4 : Addr) (x5 : V) (x6 : V) (x7 : Int) (x8 : Int) (y : Int) : putF "index" (V.int y) (acF x0 x1 x2 x3 x4 x5 x6 x7 x8) = acF x0 x1 x2 x3 x4 x5 x6 x7 y := by simp [putF, acF, acF_q0_8, acF_q1_8, acF_q2_8, acF_q3_8, acF_q4_8, acF_q5_8, acF_q6_8, acF_q7_8]
theorem acF_mk (x0 : Int) (x1 : Addr) (x2 : Addr) (x3 : Addr) (x4 : Addr) (x5 : V) (x6 : V) (x7 : Int) (x8 : Int) : putF "index" (V.int x8) (putF "depth" (V.int x7) (putF "caller" (x6) (putF "link" (x5) (putF "cells" (V.ref x4) (putF "words" (V.ref x3) (putF "where" (V.ref x2) (putF "unit" (V.ref x1) (putF "number" (V.int x0) [])))))))) = acF x0 x1 x2 x3 x4 x5 x6 x7 x8 := by simp [putF, acF, acF_q0_1, acF_q0_2, acF_q0_3, acF_q0_4, acF_q0_5, acF_q0_6, acF_q0_7, acF_q0_8, acF_q1_0, acF_q1_2, acF_q1_3, acF_q1_4, acF_q1_5, acF_q1_6, acF_q1_7, acF_q1_8, acF_q2_0, acF_q2_1, acF_q2_3, acF_q2_4, acF_q2_5, acF_q2_6, acF_q2_7, acF_q2_8, acF_q3_0, acF_q3_1, acF_q3_2, acF_q3_4, acF_q3_5, acF_q3_6, acF_q3_7, acF_q3_8, acF_q4_0, acF_q4_1, acF_q4_2, acF_q4_3, acF_q4_5, acF_q4_6, acF_q4_7, acF_q4_8, acF_q5_0, acF_q5_1, acF_q5_2, acF_q5_3, acF_q5_4, acF_q5_6, acF_q5_7, acF_q5_8, acF_q6_0, acF_q6_1, acF_q6_2, acF_q6_3, acF_q6_4, acF_q6_5, acF_q6_7, acF_q6_8, acF_q7_0, acF_q7_1, acF_q7_2, acF_q7_3, acF_q7_4, acF_q7_5, acF_q7_6, acF_q7_8, acF_q8_0, acF_q8_1, acF_q8_2, acF_q8_3, acF_q8_4, acF_q8_5, acF_q8_6, acF_q8_7]
theorem acF_len1 (x0 : Int) : (putF "number" (V.int x0) ([])).length < 1000 := by simp [putF, acF_q0_1, acF_q0_2, acF_q0_3, acF_q0_4, acF_q0_5, acF_q0_6, acF_q0_7, acF_q0_8, acF_q1_0, acF_q1_2, acF_q1_3, acF_q1_4, acF_q1_5, acF_q1_6, acF_q1_7, acF_q1_8, acF_q2_0, acF_q2_1, acF_q2_3, acF_q2_4, acF_q2_5, acF_q2_6, acF_q2_7, acF_q2_8, acF_q3_0, acF_q3_1, acF_q3_2, acF_q3_4, acF_q3_5, acF_q3_6, acF_q3_7, acF_q3_8, acF_q4_0, acF_q4_1, acF_q4_2, acF_q4_3, acF_q4_5, acF_q4_6, acF_q4_7, acF_q4_8, acF_q5_0, acF_q5_1, acF_q5_2, acF_q5_3, acF_q5_4, acF_q5_6, acF_q5_7, acF_q5_8, acF_q6_0, acF_q6_1, acF_q6_2, acF_q6_3, acF_q6_4, acF_q6_5, acF_q6_7, acF_q6_8, acF_q7_0, acF_q7_1, acF_q7_2, acF_q7_3, acF_q7_4, acF_q7_5, acF_q7_6, acF_q7_8, acF_q8_0, acF_q8_1, acF_q8_2, acF_q8_3, acF_q8_4, acF_q8_5, acF_q8_6, acF_q8_7]
theorem acF_len2 (x0 : Int) (x1 : Addr) : (putF "unit" (V.ref x1) (putF "number" (V.int x0) ([]))).length < 1000 := by simp [putF, acF_q0_1, acF_q0_2, acF_q0_3, acF_q0_4, acF_q0_5, acF_q0_6, acF_q0_7, acF_q0_8, acF_q1_0, acF_q1_2, acF_q1_3, acF_q1_4, acF_q1_5, acF_q1_6, acF_q1_7, acF_q1_8, acF_q2_0, acF_q2_1, acF_q2_3, acF_q2_4, acF_q2_5, acF_q2_6, acF_q2_7, acF_q2_8, acF_q3_0, acF_q3_1, acF_q3_2, acF_q3_4, acF_q3_5, acF_q3_6, acF_q3_7, acF_q3_8, acF_q4_0, acF_q4_1, acF_q4_2, acF_q4_3, acF_q4_5, acF_q4_6, acF_q4_7, acF_q4_8, acF_q5_0, acF_q5_1, acF_q5_2, acF_q5_3, acF_q5_4, acF_q5_6, acF_q5_7, acF_q5_8, acF_q6_0, acF_q6_1, acF_q6_2, acF_q6_3, acF_q6_4, acF_q6_5, acF_q6_7, acF_q6_8, acF_q7_0, acF_q7_1, acF_q7_2, acF_q7_3, acF_q7_4, acF_q7_5, acF_q7_6, acF_q7_8, acF_q8_0, acF_q8_1, acF_q8_2, acF_q8_3, acF_q8_4, acF_q8_5, acF_q8_6, acF_q8_7]
theorem acF_len3 (x0 : Int) (x1 : Addr) (x2 : Addr) : (putF "where" (V.ref x2) (putF "unit" (V.ref x1) (putF "number" (V.int x0) ([])))).length < 1000 := by simp [putF, acF_q0_1, acF_q0_2, acF_q0_3, acF_q0_4, acF_q0_5, acF_q0_6, acF_q0_7, acF_q0_8, acF_q1_0, acF_q1_2, acF_q1_3, acF_q1_4, acF_q1_5, acF_q1_6, acF_q1_7, acF_q1_8, acF_q2_0, acF_q2_1, acF_q2_3, acF_q2_4, acF_q2_5, acF_q2_6, acF_q2_7, acF_q2_8, acF_q3_0, acF_q3_1, acF_q3_2, acF_q3_4, acF_q3_5, acF_q3_6, acF_q3_7, acF_q3_8, acF_q4_0, acF_q4_1, acF_q4_2, acF_q4_3, acF_q4_5, acF_q4_6, acF_q4_7, acF_q4_8, acF_q5_0, acF_q5_1, acF_q5_2, acF_q5_3, acF_q5_4, acF_q5_6, acF_q5_7, acF_q5_8, acF_q6_0, acF_q6_1, acF_q6_2, acF_q6_3, acF_q6_4, acF_q6_5, acF_q6_7, acF_q6_8, acF_q7_0, acF_q7_1, acF_q7_2, acF_q7_3, acF_q7_4, acF_q7_5, acF_q7_6, acF_q7_8, acF_q8_0, acF_q8_1, acF_q8_2, acF_q8_3, acF_q8_4, acF_q8_5, acF_q8_6, acF_q8_7]
theorem acF_len4 (x0 : Int) (x1 : Addr) (x2 : Addr) (x3 : Addr) : (putF "words" (V.ref x3) (putF "where" (V.ref x2) (putF "unit" (V.ref x1) (putF "number" (V.int x0) ([]))))).length < 1000 := by simp [putF, acF_q0_1, acF_q0_2, acF_q0_3, acF_q0_4, acF_q0_5, acF_q0_6, acF_q0_7, acF_q0_8, acF_q1_0, acF_q1_2, acF_q1_3, acF_q1_4, acF_q1_5, acF_q1_6, acF_q1_7, acF_q1_8, acF_q2_0, acF_q2_1, acF_q2_3, acF_q2_4, acF_q2_5, acF_q2_6, acF_q2_7, acF_q2_8, acF_q3_0, acF_q3_1, acF_q3_2, acF_q3_4, acF_q3_5, acF_q3_6, acF_q3_7, acF_q3_8, acF_q4_0, acF_q4_1, acF_q4_2, acF_q4_3, acF_q4_5, acF_q4_6, acF_q4_7, acF_q4_8, acF_q5_0, acF_q5_1, acF_q5_2, acF_q5_3, acF_q5_4, acF_q5_6, acF_q5_7, acF_q5_8, acF_q6_0, acF_q6_1, acF_q6_2, acF_q6_3, acF_q6_4, acF_q6_5, acF_q6_7, acF_q6_8, acF_q7_0, acF_q7_1, acF_q7_2, acF_q7_3, acF_q7_4, acF_q7_5, acF_q7_6, acF_q7_8, acF_q8_0, acF_q8_1, acF_q8_2, acF_q8_3, acF_q8_4, acF_q8_5, acF_q8_6, acF_q8_7]
theorem acF_len5 (x0 : Int) (x1 : Addr) (x2 : Addr) (x3 : Addr) (x4 : Addr) : (putF "cells" (V.ref x4) (putF "words" (V.ref x3) (putF "where" (V.ref x2) (putF "unit" (V.ref x1) (putF "number" (V.int x0) ([])))))).length < 1000 := by simp [putF, acF_q0_1, acF_q0_2, acF_q0_3, acF_q0_4, acF_q0_5, acF_q0_6, acF_q0_7, acF_q0_8, acF_q1_0, acF_q1_2, acF_q1_3, acF_q1_4, acF_q1_5, acF_q1_6, acF_q1_7, acF_q1_8, acF_q2_0, acF_q2_1, acF_q2_3, acF_q2_4, acF_q2_5, acF_q2_6, acF_q2_7, acF_q2_8, acF_q3_0, acF_q3_1, acF_q3_2, acF_q3_4, acF_q3_5, acF_q3_6, acF_q3_7, acF_q3_8, acF_q4_0, acF_q4_1, acF_q4_2, acF_q4_3, acF_q4_5, acF_q4_6, acF_q4_7, acF_q4_8, acF_q5_0, acF_q5_1, acF_q5_2, acF_q5_3, acF_q5_4, acF_q5_6, acF_q5_7, acF_q5_8, acF_q6_0, acF_q6_1, acF_q6_2, acF_q6_3, acF_q6_4, acF_q6_5, acF_q6_7, acF_q6_8, acF_q7_0, acF_q7_1, acF_q7_2, acF_q7_3, acF_q7_4, acF_q7_5, acF_q7_6, acF_q7_8, acF_q8_0, acF_q8_1, acF_q8_2, acF_q8_3, acF_q8_4, acF_q8_5, acF_q8_6, acF_q8_7]
theorem acF_len6 (x0 : Int) (x1 : Addr) (x2 : Addr) (x3 : Addr) (x4 : Addr) (x5 : V) : (putF "link" (x5) (putF "cells" (V.ref x4) (putF "words" (V.ref x3) (putF "where" (V.ref x2) (putF "unit" (V.ref x1) (putF "number" (V.int x0) ([]))))))).length < 1000 := by simp [putF, acF_q0_1, acF_q0_2, acF_q0_3, acF_q0_4, acF_q0_5, acF_q0_6, acF_q0_7, acF_q0_8, acF_q1_0, acF_q1_2, acF_q1_3, acF_q1_4, acF_q1_5, acF_q1_6, acF_q1_7, acF_q1_8, acF_q2_0, acF_q2_1, acF_q2_3, acF_q2_4, acF_q2_5, acF_q2_6, acF_q2_7, acF_q2_8, acF_q3_0, acF_q3_1, acF_q3_2, acF_q3_4, acF_q3_5, acF_q3_6, acF_q3_7, acF_q3_8, acF_q4_0, acF_q4_1, acF_q4_2, acF_q4_3, acF_q4_5, acF_q4_6, acF_q4_7, acF_q4_8, acF_q5_0, acF_q5_1, acF_q5_2, acF_q5_3, acF_q5_4, acF_q5_6, acF_q5_7, acF_q5_8, acF_q6_0, acF_q6_1, acF_q6_2, acF_q6_3, acF_q6_4, acF_q6_5, acF_q6_7, acF_q6_8, acF_q7_0, acF_q7_1, acF_q7_2, acF_q7_3, acF_q7_4, acF_q7_5, acF_q7_6, acF_q7_8, acF_q8_0, acF_q8_1, acF_q8_2, acF_q8_3, acF_q8_4, acF_q8_5, acF_q8_6, acF_q8_7]
theorem acF_len7 (x0 : Int) (x1 : Addr) (x2 : Addr) (x3 : Addr) (x4 : Addr) (x5 : V) (x6 : V) : (putF "caller" (x6) (putF "link" (x5) (putF "cells" (V.ref x4) (putF "words" (V.ref x3) (putF "where" (V.ref x2) (putF "unit" (V.ref x1) (putF "number" (V.int x0) ([])))))))).length < 1000 := by simp [putF, acF_q0_1, acF_q0_2, acF_q0_3, acF_q0_4, acF_q0_5, acF_q0_6, acF_q0_7, acF_q0_8, acF_q1_0, acF_q1_2, acF_q1_3, acF_q1_4, acF_q1_5, acF_q1_6, acF_q1_7, acF_q1_8, acF_q2_0, acF_q2_1, acF_q2_3, acF_q2_4, acF_q2_5, acF_q2_6, acF_q2_7, acF_q2_8, acF_q3_0, acF_q3_1, acF_q3_2, acF_q3_4, acF_q3_5, acF_q3_6, acF_q3_7, acF_q3_8, acF_q4_0, acF_q4_1, acF_q4_2, acF_q4_3, acF_q4_5, acF_q4_6, acF_q4_7, acF_q4_8, acF_q5_0, acF_q5_1, acF_q5_2, acF_q5_3, acF_q5_4, acF_q5_6, acF_q5_7, acF_q5_8, acF_q6_0, acF_q6_1, acF_q6_2, acF_q6_3, acF_q6_4, acF_q6_5, acF_q6_7, acF_q6_8, acF_q7_0, acF_q7_1, acF_q7_2, acF_q7_3, acF_q7_4, acF_q7_5, acF_q7_6, acF_q7_8, acF_q8_0, acF_q8_1, acF_q8_2, acF_q8_3, acF_q8_4, acF_q8_5, acF_q8_6, acF_q8_7]
theorem acF_len8 (x0 : Int) (x1 : Addr) (x2 : Addr) (x3 : Addr) (x4 : Addr) (x5 : V) (x6 : V) (x7 : Int) : (putF "depth" (V.int x7) (putF "caller" (x6) (putF "link" (x5) (putF "cells" (V.ref x4) (putF "words" (V.ref x3) (putF "where" (V.ref x2) (putF "unit" (V.ref x1) (putF "number" (V.int x0) ([]))))))))).length < 1000 := by simp [putF, acF_q0_1, acF_q0_2, acF_q0_3, acF_q0_4, acF_q0_5, acF_q0_6, acF_q0_7, acF_q0_8, acF_q1_0, acF_q1_2, acF_q1_3, acF_q1_4, acF_q1_5, acF_q1_6, acF_q1_7, acF_q1_8, acF_q2_0, acF_q2_1, acF_q2_3, acF_q2_4, acF_q2_5, acF_q2_6, acF_q2_7, acF_q2_8, acF_q3_0, acF_q3_1, acF_q3_2, acF_q3_4, acF_q3_5, acF_q3_6, acF_q3_7, acF_q3_8, acF_q4_0, acF_q4_1, acF_q4_2, acF_q4_3, acF_q4_5, acF_q4_6, acF_q4_7, acF_q4_8, acF_q5_0, acF_q5_1, acF_q5_2, acF_q5_3, acF_q5_4, acF_q5_6, acF_q5_7, acF_q5_8, acF_q6_0, acF_q6_1, acF_q6_2, acF_q6_3, acF_q6_4, acF_q6_5, acF_q6_7, acF_q6_8, acF_q7_0, acF_q7_1, acF_q7_2, acF_q7_3, acF_q7_4, acF_q7_5, acF_q7_6, acF_q7_8, acF_q8_0, acF_q8_1, acF_q8_2, acF_q8_3, acF_q8_4, acF_q8_5, acF_q8_6, acF_q8_7]
theorem mcF_e0_1 : (("module" : Str) == "layouts") = false := by decide +kernel
theorem mcF_q0_1 : (("module" : Str) = "layouts") = False := by simp only [eq_iff_iff, iff_false]; decide +kernel
theorem mcF_e0_2 : (("module" : Str) == "events") = false := by decide +kernel
theorem mcF_q0_2 : (("module" : Str) = "events") = False := by simp only [eq_iff_iff, iff_false]; decide +kernel
theorem mcF_e0_3 : (("module" : Str) == "fuel") = false := by decide +kernel
theorem mcF_q0_3 : (("module" : Str) = "fuel") = False := by simp only [eq_iff_iff, iff_false]; decide +kernel
theorem mcF_e0_4 : (("module" : Str) == "current") = false := by decide +kernel
theorem mcF_q0_4 : (("module" : Str) = "current") = False := by simp only [eq_iff_iff, iff_false]; decide +kernel
theorem mcF_e0_5 : (("module" : Str) == "ending") = false := by decide +kernel
theorem mcF_q0_5 : (("module" : Str) = "ending") = False := by simp only [eq_iff_iff, iff_false]; decide +kernel
theorem mcF_e1_0 : (("layouts" : Str) == "module") = false := by decide +kernel
theorem mcF_q1_0 : (("layouts" : Str) = "module") = False := by simp only [eq_iff_iff, iff_false]; decide +kernel
theorem mcF_e1_2 : (("layouts" : Str) == "events") = false := by decide +kernel
theorem mcF_q1_2 : (("layouts" : Str) = "events") = False := by simp only [eq_iff_iff, iff_false]; decide +kernel
theorem mcF_e1_3 : (("layouts" : Str) == "fuel") = false := by decide +kernel
theorem mcF_q1_3 : (("layouts" : Str) = "fuel") = False := by simp only [eq_iff_iff, iff_false]; decide +kernel
theorem mcF_e1_4 : (("layouts" : Str) == "current") = false := by decide +kernel
theorem mcF_q1_4 : (("layouts" : Str) = "current") = False := by simp only [eq_iff_iff, iff_false]; decide +kernel
theorem mcF_e1_5 : (("layouts" : Str) == "ending") = false := by decide +kernel
theorem mcF_q1_5 : (("layouts" : Str) = "ending") = False := by simp only [eq_iff_iff, iff_false]; decide +kernel
theorem mcF_e2_0 : (("events" : Str) == "module") = false := by decide +kernel
theorem mcF_q2_0 : (("events" : Str) = "module") = False := by simp only [eq_iff_iff, iff_false]; decide +kernel
theorem mcF_e2_1 : (("events" : Str) == "layouts") = false := by decide +kernel
theorem mcF_q2_1 : (("events" : Str) = "layouts") = False := by simp only [eq_iff_iff, iff_false]; decide +kernel
theorem mcF_e2_3 : (("events" : Str) == "fuel") = false := by decide +kernel
theorem mcF_q2_3 : (("events" : Str) = "fuel") = False := by simp only [eq_iff_iff, iff_false]; decide +kernel
theorem mcF_e2_4 : (("events" : Str) == "current") = false := by decide +kernel
theorem mcF_q2_4 : (("events" : Str) = "current") = False := by simp only [eq_iff_iff, iff_false]; decide +kernel
theorem mcF_e2_5 : (("events" : Str) == "ending") = false := by decide +kernel
theorem mcF_q2_5 : (("events" : Str) = "ending") = False := by simp only [eq_iff_iff, iff_false]; decide +kernel
theorem mcF_e3_0 : (("fuel" : Str) == "module") = false := by decide +kernel
theorem mcF_q3_0 : (("fuel" : Str) = "module") = False := by simp only [eq_iff_iff, iff_false]; decide +kernel
theorem mcF_e3_1 : (("fuel" : Str) == "layouts") = false := by decide +kernel
theorem mcF_q3_1 : (("fuel" : Str) = "layouts") = False := by simp only [eq_iff_iff, iff_false]; decide +kernel
theorem mcF_e3_2 : (("fuel" : Str) == "events") = false := by decide +kernel
theorem mcF_q3_2 : (("fuel" : Str) = "events") = False := by simp only [eq_iff_iff, iff_false]; decide +kernel
theorem mcF_e3_4 : (("fuel" : Str) == "current") = false := by decide +kernel
theorem mcF_q3_4 : (("fuel" : Str) = "current") = False := by simp only [eq_iff_iff, iff_false]; decide +kernel
theorem mcF_e3_5 : (("fuel" : Str) == "ending") = false := by decide +kernel
theorem mcF_q3_5 : (("fuel" : Str) = "ending") = False := by simp only [eq_iff_iff, iff_false]; decide +kernel
theorem mcF_e4_0 : (("current" : Str) == "module") = false := by decide +kernel
theorem mcF_q4_0 : (("current" : Str) = "module") = False := by simp only [eq_iff_iff, iff_false]; decide +kernel
theorem mcF_e4_1 : (("current" : Str) == "layouts") = false := by decide +kernel
theorem mcF_q4_1 : (("current" : Str) = "layouts") = False := by simp only [eq_iff_iff, iff_false]; decide +kernel
theorem mcF_e4_2 : (("current" : Str) == "events") = false := by decide +kernel
theorem mcF_q4_2 : (("current" : Str) = "events") = False := by simp only [eq_iff_iff, iff_false]; decide +kernel
theorem mcF_e4_3 : (("current" : Str) == "fuel") = false := by decide +kernel
theorem mcF_q4_3 : (("current" : Str) = "fuel") = False := by simp only [eq_iff_iff, iff_false]; decide +kernel
theorem mcF_e4_5 : (("current" : Str) == "ending") = false := by decide +kernel
theorem mcF_q4_5 : (("current" : Str) = "ending") = False := by simp only [eq_iff_iff, iff_false]; decide +kernel
theorem mcF_e5_0 : (("ending" : Str) == "module") = false := by decide +kernel
theorem mcF_q5_0 : (("ending" : Str) = "module") = False := by simp only [eq_iff_iff, iff_false]; decide +kernel
theorem mcF_e5_1 : (("ending" : Str) == "layouts") = false := by decide +kernel
theorem mcF_q5_1 : (("ending" : Str) = "layouts") = False := by simp only [eq_iff_iff, iff_false]; decide +kernel
theorem mcF_e5_2 : (("ending" : Str) == "events") = false := by decide +kernel
theorem mcF_q5_2 : (("ending" : Str) = "events") = False := by simp only [eq_iff_iff, iff_false]; decide +kernel
theorem mcF_e5_3 : (("ending" : Str) == "fuel") = false := by decide +kernel
theorem mcF_q5_3 : (("ending" : Str) = "fuel") = False := by simp only [eq_iff_iff, iff_false]; decide +kernel
theorem mcF_e5_4 : (("ending" : Str) == "current") = false := by decide +kernel
theorem mcF_q5_4 : (("ending" : Str) = "current") = False := by simp only [eq_iff_iff, iff_false]; decide +kernel
def mcF (x0 : Addr) (x1 : Addr) (x2 : Addr) (x3 : Addr) (x4 : V) (x5 : V) : List (Str × V) := [("module", .ref x0), ("layouts", .ref x1), ("events", .ref x2), ("fuel", .ref x3), ("current", x4), ("ending", x5)]
theorem mcF_module (x0 : Addr) (x1 : Addr) (x2 : Addr) (x3 : Addr) (x4 : V) (x5 : V) : (mcF x0 x1 x2 x3 x4 x5).lookup ("module" : Str) = some (V.ref x0) := by simp [mcF, List.lookup, mcF]
theorem mcF_layouts (x0 : Addr) (x1 : Addr) (x2 : Addr) (x3 : Addr) (x4 : V) (x5 : V) : (mcF x0 x1 x2 x3 x4 x5).lookup ("layouts" : Str) = some (V.ref x1) := by simp [mcF, List.lookup, mcF_e1_0]
theorem mcF_events (x0 : Addr) (x1 : Addr) (x2 : Addr) (x3 : Addr) (x4 : V) (x5 : V) : (mcF x0 x1 x2 x3 x4 x5).lookup ("events" : Str) = some (V.ref x2) := by simp [mcF, List.lookup, mcF_e2_0, mcF_e2_1]
theorem mcF_fuel (x0 : Addr) (x1 : Addr) (x2 : Addr) (x3 : Addr) (x4 : V) (x5 : V) : (mcF x0 x1 x2 x3 x4 x5).lookup ("fuel" : Str) = some (V.ref x3) := by simp [mcF, List.lookup, mcF_e3_0, mcF_e3_1, mcF_e3_2]
theorem mcF_current (x0 : Addr) (x1 : Addr) (x2 : Addr) (x3 : Addr) (x4 : V) (x5 : V) : (mcF x0 x1 x2 x3 x4 x5).lookup ("current" : Str) = some (x4) := by simp [mcF, List.lookup, mcF_e4_0, mcF_e4_1, mcF_e4_2, mcF_e4_3]
theorem mcF_ending (x0 : Addr) (x1 : Addr) (x2 : Addr) (x3 : Addr) (x4 : V) (x5 : V) : (mcF x0 x1 x2 x3 x4 x5).lookup ("ending" : Str) = some (x5) := by simp [mcF, List.lookup, mcF_e5_0, mcF_e5_1, mcF_e5_2, mcF_e5_3, mcF_e5_4]
theorem mcF_mactivate_0 : (("activate" : Str) == "module") = false := by decide +kernel
theorem mcF_mactivate_1 : (("activate" : Str) == "layouts") = false := by decide +kernel
theorem mcF_mactivate_2 : (("activate" : Str) == "events") = false := by decide +kernel
theorem mcF_mactivate_3 : (("activate" : Str) == "fuel") = false := by decide +kernel
theorem mcF_mactivate_4 : (("activate" : Str) == "current") = false := by decide +kernel
theorem mcF_mactivate_5 : (("activate" : Str) == "ending") = false := by decide +kernel
theorem mcF_no_activate (x0 : Addr) (x1 : Addr) (x2 : Addr) (x3 : Addr) (x4 : V) (x5 : V) : (mcF x0 x1 x2 x3 x4 x5).lookup ("activate" : Str) = none := by simp [mcF, List.lookup, mcF_mactivate_0, mcF_mactivate_1, mcF_mactivate_2, mcF_mactivate_3, mcF_mactivate_4, mcF_mactivate_5]
theorem mcF_mstep_0 : (("step" : Str) == "module") = false := by decide +kernel
theorem mcF_mstep_1 : (("step" : Str) == "layouts") = false := by decide +kernel
theorem mcF_mstep_2 : (("step" : Str) == "events") = false := by decide +kernel
theorem mcF_mstep_3 : (("step" : Str) == "fuel") = false := by decide +kernel
theorem mcF_mstep_4 : (("step" : Str) == "current") = false := by decide +kernel
theorem mcF_mstep_5 : (("step" : Str) == "ending") = false := by decide +kernel
theorem mcF_no_step (x0 : Addr) (x1 : Addr) (x2 : Addr) (x3 : Addr) (x4 : V) (x5 : V) : (mcF x0 x1 x2 x3 x4 x5).lookup ("step" : Str) = none := by simp [mcF, List.lookup, mcF_mstep_0, mcF_mstep_1, mcF_mstep_2, mcF_mstep_3, mcF_mstep_4, mcF_mstep_5]
theorem mcF_mfinish_0 : (("finish" : Str) == "module") = false := by decide +kernel
theorem mcF_mfinish_1 : (("finish" : Str) == "layouts") = false := by decide +kernel
theorem mcF_mfinish_2 : (("finish" : Str) == "events") = false := by decide +kernel
theorem mcF_mfinish_3 : (("finish" : Str) == "fuel") = false := by decide +kernel
theorem mcF_mfinish_4 : (("finish" : Str) == "current") = false := by decide +kernel
theorem mcF_mfinish_5 : (("finish" : Str) == "ending") = false := by decide +kernel
theorem mcF_no_finish (x0 : Addr) (x1 : Addr) (x2 : Addr) (x3 : Addr) (x4 : V) (x5 : V) : (mcF x0 x1 x2 x3 x4 x5).lookup ("finish" : Str) = none := by simp [mcF, List.lookup, mcF_mfinish_0, mcF_mfinish_1, mcF_mfinish_2, mcF_mfinish_3, mcF_mfinish_4, mcF_mfinish_5]
theorem mcF_mraise_exception_0 : (("raise_exception" : Str) == "module") = false := by decide +kernel
theorem mcF_mraise_exception_1 : (("raise_exception" : Str) == "layouts") = false := by decide +kernel
theorem mcF_mraise_exception_2 : (("raise_exception" : Str) == "events") = false := by decide +kernel
theorem mcF_mraise_exception_3 : (("raise_exception" : Str) == "fuel") = false := by decide +kernel
theorem mcF_mraise_exception_4 : (("raise_exception" : Str) == "current") = false := by decide +kernel
theorem mcF_mraise_exception_5 : (("raise_exception" : Str) == "ending") = false := by decide +kernel
theorem mcF_no_raise_exception (x0 : Addr) (x1 : Addr) (x2 : Addr) (x3 : Addr) (x4 : V) (x5 : V) : (mcF x0 x1 x2 x3 x4 x5).lookup ("raise_exception" : Str) = none := by simp [mcF, List.lookup, mcF_mraise_exception_0, mcF_mraise_exception_1, mcF_mraise_exception_2, mcF_mraise_exception_3, mcF_mraise_exception_4, mcF_mraise_exception_5]
theorem mcF_put_module (x0 : Addr) (x1 : Addr) (x2 : Addr) (x3 : Addr) (x4 : V) (x5 : V) (y : Addr) : putF "module" (V.ref y) (mcF x0 x1 x2 x3 x4 x5) = mcF y x1 x2 x3 x4 x5 := by simp [putF, mcF, mcF_q1_0, mcF_q2_0, mcF_q3_0, mcF_q4_0, mcF_q5_0]
theorem mcF_put_layouts (x0 : Addr) (x1 : Addr) (x2 : Addr) (x3 : Addr) (x4 : V) (x5 : V) (y : Addr) : putF "layouts" (V.ref y) (mcF x0 x1 x2 x3 x4 x5) = mcF x0 y x2 x3 x4 x5 := by simp [putF, mcF, mcF_q0_1, mcF_q2_1, mcF_q3_1, mcF_q4_1, mcF_q5_1]
theorem mcF_put_events (x0 : Addr) (x1 : Addr) (x2 : Addr) (x3 : Addr) (x4 : V) (x5 : V) (y : Addr) : putF "events" (V.ref y) (mcF x0 x1 x2 x3 x4 x5) = mcF x0 x1 y x3 x4 x5 := by simp [putF, mcF, mcF_q0_2, mcF_q1_2, mcF_q3_2, mcF_q4_2, mcF_q5_2]
theorem mcF_put_fuel (x0 : Addr) (x1 : Addr) (x2 : Addr) (x3 : Addr) (x4 : V) (x5 : V) (y : Addr) : putF "fuel" (V.ref y) (mcF x0 x1 x2 x3 x4 x5) = mcF x0 x1 x2 y x4 x5 := by simp [putF, mcF, mcF_q0_3, mcF_q1_3, mcF_q2_3, mcF_q4_3, mcF_q5_3]
theorem mcF_put_current (x0 : Addr) (x1 : Addr) (x2 : Addr) (x3 : Addr) (x4 : V) (x5 : V) (y : V) : putF "current" (y) (mcF x0 x1 x2 x3 x4 x5) = mcF x0 x1 x2 x3 y x5 := by simp [putF, mcF, mcF_q0_4, mcF_q1_4, mcF_q2_4, mcF_q3_4, mcF_q5_4]
theorem mcF_put_ending (x0 : Addr) (x1 : Addr) (x2 : Addr) (x3 : Addr) (x4 : V) (x5 : V) (y : V) : putF "ending" (y) (mcF x0 x1 x2 x3 x4 x5) = mcF x0 x1 x2 x3 x4 y := by simp [putF, mcF, mcF_q0_5, mcF_q1_5, mcF_q2_5, mcF_q3_5, mcF_q4_5]
theorem mcF_mk (x0 : Addr) (x1 : Addr) (x2 : Addr) (x3 : Addr) (x4 : V) (x5 : V) : putF "ending" (x5) (putF "current" (x4) (putF "fuel" (V.ref x3) (putF "events" (V.ref x2) (putF "layouts" (V.ref x1) (putF "module" (V.ref x0) []))))) = mcF x0 x1 x2 x3 x4 x5 := by simp [putF, mcF, mcF_q0_1, mcF_q0_2, mcF_q0_3, mcF_q0_4, mcF_q0_5, mcF_q1_0, mcF_q1_2, mcF_q1_3, mcF_q1_4, mcF_q1_5, mcF_q2_0, mcF_q2_1, mcF_q2_3, mcF_q2_4, mcF_q2_5, mcF_q3_0, mcF_q3_1, mcF_q3_2, mcF_q3_4, mcF_q3_5, mcF_q4_0, mcF_q4_1, mcF_q4_2, mcF_q4_3, mcF_q4_5, mcF_q5_0, mcF_q5_1, mcF_q5_2, mcF_q5_3, mcF_q5_4]
theorem mcF_len1 (x0 : Addr) : (putF "module" (V.ref x0) ([])).length < 1000 := by simp [putF, mcF_q0_1, mcF_q0_2, mcF_q0_3, mcF_q0_4, mcF_q0_5, mcF_q1_0, mcF_q1_2, mcF_q1_3, mcF_q1_4, mcF_q1_5, mcF_q2_0, mcF_q2_1, mcF_q2_3, mcF_q2_4, mcF_q2_5, mcF_q3_0, mcF_q3_1, mcF_q3_2, mcF_q3_4, mcF_q3_5, mcF_q4_0, mcF_q4_1, mcF_q4_2, mcF_q4_3, mcF_q4_5, mcF_q5_0, mcF_q5_1, mcF_q5_2, mcF_q5_3, mcF_q5_4]
theorem mcF_len2 (x0 : Addr) (x1 : Addr) : (putF "layouts" (V.ref x1) (putF "module" (V.ref x0) ([]))).length < 1000 := by simp [putF, mcF_q0_1, mcF_q0_2, mcF_q0_3, mcF_q0_4, mcF_q0_5, mcF_q1_0, mcF_q1_2, mcF_q1_3, mcF_q1_4, mcF_q1_5, mcF_q2_0, mcF_q2_1, mcF_q2_3, mcF_q2_4, mcF_q2_5, mcF_q3_0, mcF_q3_1, mcF_q3_2, mcF_q3_4, mcF_q3_5, mcF_q4_0, mcF_q4_1, mcF_q4_2, mcF_q4_3, mcF_q4_5, mcF_q5_0, mcF_q5_1, mcF_q5_2, mcF_q5_3, mcF_q5_4]
theorem mcF_len3 (x0 : Addr) (x1 : Addr) (x2 : Addr) : (putF "events" (V.ref x2) (putF "layouts" (V.ref x1) (putF "module" (V.ref x0) ([])))).length < 1000 := by simp [putF, mcF_q0_1, mcF_q0_2, mcF_q0_3, mcF_q0_4, mcF_q0_5, mcF_q1_0, mcF_q1_2, mcF_q1_3, mcF_q1_4, mcF_q1_5, mcF_q2_0, mcF_q2_1, mcF_q2_3, mcF_q2_4, mcF_q2_5, mcF_q3_0, mcF_q3_1, mcF_q3_2, mcF_q3_4, mcF_q3_5, mcF_q4_0, mcF_q4_1, mcF_q4_2, mcF_q4_3, mcF_q4_5, mcF_q5_0, mcF_q5_1, mcF_q5_2, mcF_q5_3, mcF_q5_4]
theorem mcF_len4 (x0 : Addr) (x1 : Addr) (x2 : Addr) (x3 : Addr) : (putF "fuel" (V.ref x3) (putF "events" (V.ref x2) (putF "layouts" (V.ref x1) (putF "module" (V.ref x0) ([]))))).length < 1000 := by simp [putF, mcF_q0_1, mcF_q0_2, mcF_q0_3, mcF_q0_4, mcF_q0_5, mcF_q1_0, mcF_q1_2, mcF_q1_3, mcF_q1_4, mcF_q1_5, mcF_q2_0, mcF_q2_1, mcF_q2_3, mcF_q2_4, mcF_q2_5, mcF_q3_0, mcF_q3_1, mcF_q3_2, mcF_q3_4, mcF_q3_5, mcF_q4_0, mcF_q4_1, mcF_q4_2, mcF_q4_3, mcF_q4_5, mcF_q5_0, mcF_q5_1, mcF_q5_2, mcF_q5_3, mcF_q5_4]
theorem mcF_len5 (x0 : Addr) (x1 : Addr) (x2 : Addr) (x3 : Addr) (x4 : V) : (putF "current" (x4) (putF "fuel" (V.ref x3) (putF "events" (V.ref x2) (putF "layouts" (V.ref x1) (putF "module" (V.ref x0) ([])))))).length < 1000 := by simp [putF, mcF_q0_1, mcF_q0_2, mcF_q0_3, mcF_q0_4, mcF_q0_5, mcF_q1_0, mcF_q1_2, mcF_q1_3, mcF_q1_4, mcF_q1_5, mcF_q2_0, mcF_q2_1, mcF_q2_3, mcF_q2_4, mcF_q2_5, mcF_q3_0, mcF_q3_1, mcF_q3_2, mcF_q3_4, mcF_q3_5, mcF_q4_0, mcF_q4_1, mcF_q4_2, mcF_q4_3, mcF_q4_5, mcF_q5_0, mcF_q5_1, mcF_q5_2, mcF_q5_3, mcF_q5_4]

/-! ### defs whose exceptions bear no context; defs called in an except suite -/
theorem takes0N {X : Cx} : L2N.Takes X (fun _ _ _ _ => False) := fun _ _ x => by
  obtain ⟨_, _, _, _, _, _, _, _, _, _, _, _, _, _, _, _, z⟩ := x
  exact z.elim
section
variable {P : Program} {w : World} {K : PySem.W.Frag} {mg : Str → Option Value} {base : Heap} {x qual : Str} {st : Stmt} {f : Addr} {fd : FuncData} {N ps : List Str} {k : Nat} {sp : Sp}
theorem _root_.L2.Fun.okN (F : Fun K x qual st f fd) (S : FnScope N ps (defScope st)) (len : ∀ vs H Q E, sp vs H Q E → vs.length = ps.length)
    (hbody : ∀ (cdv : Value) (A : Around) (outer : List Env) (s : Shared) (H : Hp) (vs : List V) (Q : VK) (E : XK), Room k (A.deeper (PyProof.Rows.envOfC qual (defScope st) s.heap.objs.size f cdv)) → sp vs H Q E →
      ∃ t, PSs (cxOf (L2N.CX P w) P w K mg base N qual (defScope st) f cdv A outer s H E) (defBody st) t ∧ t { nx := fun _ H' => Q .non H', rt := Q } (start N vs) H) : FnOk P w K mg base (L2N.CX P w) (k + 1) f fd ps sp := by
  obtain ⟨oc, od, kV, doc, pm, an, cdv, ct, osl, rfl, lk, hcd⟩ := F.ex
  exact fn_of lk hcd S len fun A outer s H vs Q E hr hsp => hbody cdv A outer s H vs Q E hr hsp
theorem _root_.L2.Fun.okH (F : Fun K x qual st f fd) (S : FnScope N ps (defScope st)) (len : ∀ vs H Q E, sp vs H Q E → vs.length = ps.length)
    (hbody : ∀ (cdv : Value) (A : Around) (outer : List Env) (s : Shared) (H : Hp) (vs : List V) (Q : VK) (E : XK) (p : Addr × Obj), L2H.Hot1 A p → L2H.RoomH k (A.deeper (PyProof.Rows.envOfC qual (defScope st) s.heap.objs.size f cdv)) → sp vs H Q E →
      ∃ t, PSs (L2H.cxH CX0 P w K mg base N qual (defScope st) f cdv A outer s H E p) (defBody st) t ∧ t { nx := fun _ H' => Q .non H', rt := Q } (start N vs) H) : L2H.FnH P w K mg base CX0 (k + 1) f fd ps sp := by
  obtain ⟨oc, od, kV, doc, pm, an, cdv, ct, osl, rfl, lk, hcd⟩ := F.ex
  exact L2H.fn_ofH lk hcd S len fun A outer s H vs Q E p hot hr hsp => hbody cdv A outer s H vs Q E p hot hr hsp
end
section
variable {X : Cx}
theorem passA0 {E : St → XK} : ∀ σ, PassesAt CX0 X σ (E σ) := fun _ _ _ _ _ _ _ h => h.elim
theorem hotS {a : Addr} {cls : Value} {d : Option Addr} {oe : Obj} {pn : List (Addr × Obj)} (hz : L2N.Zn cls d oe) (hf : ∃ vs, oe.data = .fields vs) : L2H.HotC (X.suite a ((a, oe) :: pn)) := by
  obtain ⟨vs, hd⟩ := hf
  exact ⟨(a, oe), ⟨rfl, vs, hd, hz.2.2 vs hd⟩, List.mem_cons_self⟩
theorem huH {k : Nat} {A : Around} (r : L2H.RoomH k A) : A.units + 1 < cLine := by have := r.un; omega
theorem roomS {k j : Nat} {X : Cx} {a : Addr} {pn : List (Addr × Obj)} (r : Room k X.A) (h : j + 1 ≤ k) : L2H.RoomH j (X.suite a pn).A :=
  ⟨by have := r.dp; show X.A.depth + 3 * j + 5 < _; omega, by have := r.un; show X.A.units + 16 * j + 200 < _; omega⟩
end

/-! ### mathematics -/
theorem fmod_uniq {l r q m : Int} (e : l = r * q + m) (h : (0 ≤ m ∧ m < r) ∨ (r < m ∧ m ≤ 0)) : l.fmod r = m := by
  rcases h with ⟨h0, h1⟩ | ⟨h0, h1⟩
  · rw [Int.fmod_eq_emod_of_nonneg _ (by omega)]
    exact ((Int.ediv_emod_unique (q := q) (by omega)).mpr ⟨by omega, h0, h1⟩).2
  · rw [Int.fmod_eq_emod]
    by_cases z : m = 0
    · have d : r ∣ l := ⟨q, by omega⟩
      rw [if_pos (.inr d), Int.emod_eq_zero_of_dvd d]
      omega
    · have nd : ¬ (0 ≤ r ∨ r ∣ l) := by
        rintro (x | ⟨c, x⟩)
        · omega
        · have em : m = r * (c - q) := by
            rw [Int.mul_sub]
            omega
          have hc : c - q = 0 ∨ c - q ≥ 1 ∨ c - q ≤ -1 := by omega
          rcases hc with hc | hc | hc
          · rw [hc] at em; omega
          · have k : r * (c - q) ≤ r * 1 := Int.mul_le_mul_of_nonpos_left (by omega) hc
            omega
          · have k : r * (-1) ≤ r * (c - q) := Int.mul_le_mul_of_nonpos_left (by omega) hc
            omega
      rw [if_neg nd]
      have el : l % r = m - r := by
        rw [← Int.emod_neg]
        refine ((Int.ediv_emod_unique (q := -(q + 1)) (by omega)).mpr ⟨?_, by omega, by omega⟩).2
        rw [Int.neg_mul_neg, Int.mul_add]
        omega
      omega
def ab (x : Int) : Int := if x < 0 then -x else x
def quo (l r : Int) : Int := cond (decide (V.bl (decide (l < 0)) = V.bl (decide (r < 0)))) (ab l / ab r) (-(ab l / ab r))
theorem sgn_eq (l r : Int) : decide (V.bl (decide (l < 0)) = V.bl (decide (r < 0))) = (decide (l < 0) == decide (r < 0)) := by
  cases decide (l < 0) <;> cases decide (r < 0) <;> decide
theorem rest_fact {l r : Int} (hr : r ≠ 0) : ∃ t, 0 ≤ t ∧ t < ab r ∧ l - quo l r * r = if l < 0 then -t else t := by
  have hB : 0 < ab r := by unfold ab; split <;> omega
  have hd := Int.mul_ediv_add_emod (ab l) (ab r)
  have h0 := Int.emod_nonneg (ab l) (b := ab r) (by omega)
  have h1 := Int.emod_lt_of_pos (ab l) hB
  refine ⟨ab l % ab r, h0, h1, ?_⟩
  unfold quo
  rw [sgn_eq]
  generalize hq : ab l / ab r = q at *
  generalize ht : ab l % ab r = t at *
  by_cases a : l < 0 <;> by_cases b : r < 0
  · rw [decide_eq_true a, decide_eq_true b, if_pos a]
    have e1 : ab l = -l := if_pos a
    have e2 : ab r = -r := if_pos b
    rw [e1, e2] at hd
    show l - q * r = -t
    rw [Int.neg_mul] at hd
    have := Int.mul_comm q r
    omega
  · rw [decide_eq_true a, decide_eq_false b, if_pos a]
    have e1 : ab l = -l := if_pos a
    have e2 : ab r = r := if_neg b
    rw [e1, e2] at hd
    show l - -q * r = -t
    rw [Int.neg_mul]
    have := Int.mul_comm q r
    omega
  · rw [decide_eq_false a, decide_eq_true b, if_neg a]
    have e1 : ab l = l := if_neg a
    have e2 : ab r = -r := if_pos b
    rw [e1, e2] at hd
    show l - -q * r = t
    rw [Int.neg_mul] at hd ⊢
    have := Int.mul_comm q r
    omega
  · rw [decide_eq_false a, decide_eq_false b, if_neg a]
    have e1 : ab l = l := if_neg a
    have e2 : ab r = r := if_neg b
    rw [e1, e2] at hd
    show l - q * r = t
    have := Int.mul_comm q r
    omega
theorem mod_adj {l r : Int} (hr : r ≠ 0) (h1 : l - quo l r * r ≠ 0) (h2 : decide (l - quo l r * r < 0) ≠ decide (r < 0)) : l - quo l r * r + r = l.fmod r := by
  obtain ⟨t, t0, t1, e⟩ := rest_fact (l := l) hr
  have hc := Int.mul_comm (quo l r) r
  refine (fmod_uniq (q := quo l r - 1) (by rw [Int.mul_sub]; omega) ?_).symm
  by_cases b : r < 0
  · have e2 : ab r = -r := if_pos b
    have : ¬ (l - quo l r * r < 0) := fun x => h2 (by rw [decide_eq_true x, decide_eq_true b])
    refine .inr ?_
    split at e <;> omega
  · have e2 : ab r = r := if_neg b
    have : l - quo l r * r < 0 := Classical.byContradiction fun x => h2 (by rw [decide_eq_false x, decide_eq_false b])
    refine .inl ?_
    split at e <;> omega
theorem mod_same {l r : Int} (hr : r ≠ 0) (h : l - quo l r * r = 0 ∨ decide (l - quo l r * r < 0) = decide (r < 0)) : l - quo l r * r = l.fmod r := by
  obtain ⟨t, t0, t1, e⟩ := rest_fact (l := l) hr
  have hc := Int.mul_comm (quo l r) r
  refine (fmod_uniq (q := quo l r) (by omega) ?_).symm
  by_cases b : r < 0
  · have e2 : ab r = -r := if_pos b
    refine .inr ?_
    rcases h with h | h
    · omega
    · have : l - quo l r * r < 0 := by rw [decide_eq_true b] at h; exact of_decide_eq_true h
      split at e <;> omega
  · have e2 : ab r = r := if_neg b
    refine .inl ?_
    rcases h with h | h
    · omega
    · have : ¬ (l - quo l r * r < 0) := by rw [decide_eq_false b] at h; exact of_decide_eq_false h
      split at e <;> omega
/-! ### the mirrors -/
def wd (x : Int) : Prop := -2147483648 ≤ x ∧ x ≤ 2147483647
def isW (n : Int) : Bool := cond (decide (-2147483648 ≤ n)) (decide (n ≤ 2147483647)) false
theorem wd_of {n : Int} (h : isW n = true) : wd n := by
  unfold isW at h
  cases e : decide (-2147483648 ≤ n) <;> rw [e] at h
  · exact nomatch h
  · exact ⟨of_decide_eq_true e, of_decide_eq_true h⟩
def opS (k : Nat) : Str := (["+", "-", "*", "/", "mod", "rem"] : List Str).getD k ""
theorem o0 : ∀ k : _root_.Fin 6, decide (V.str (opS k.val) = V.str "+") = decide (k.val = 0) := by decide +kernel
theorem o1 : ∀ k : _root_.Fin 6, decide (V.str (opS k.val) = V.str "-") = decide (k.val = 1) := by decide +kernel
theorem o2 : ∀ k : _root_.Fin 6, decide (V.str (opS k.val) = V.str "*") = decide (k.val = 2) := by decide +kernel
theorem o3 : ∀ k : _root_.Fin 6, decide (V.str (opS k.val) = V.str "/") = decide (k.val = 3) := by decide +kernel
theorem o4 : ∀ k : _root_.Fin 6, decide (V.str (opS k.val) = V.str "mod") = decide (k.val = 4) := by decide +kernel
theorem oin : ∀ k : _root_.Fin 6, inV (.str (opS k.val)) [V.str "/", V.str "mod", V.str "rem"] = decide (3 ≤ k.val) := by decide +kernel
def resN (k : Nat) (l r : Int) : Int := match k with
  | 0 => l + r
  | 1 => l - r
  | 2 => l * r
  | 3 => quo l r
  | 4 => l.fmod r
  | _ => l - r * quo l r
def sgS (k : Nat) : Str := (["=", "/=", "<", "<=", ">", ">="] : List Str).getD k ""
theorem s0 : ∀ k : _root_.Fin 6, decide (V.str (sgS k.val) = V.str "=") = decide (k.val = 0) := by decide +kernel
theorem s1 : ∀ k : _root_.Fin 6, decide (V.str (sgS k.val) = V.str "/=") = decide (k.val = 1) := by decide +kernel
theorem s2 : ∀ k : _root_.Fin 6, decide (V.str (sgS k.val) = V.str "<") = decide (k.val = 2) := by decide +kernel
theorem s3 : ∀ k : _root_.Fin 6, decide (V.str (sgS k.val) = V.str "<=") = decide (k.val = 3) := by decide +kernel
theorem s4 : ∀ k : _root_.Fin 6, decide (V.str (sgS k.val) = V.str ">") = decide (k.val = 4) := by decide +kernel
def cmpN (k : Nat) (l r : Int) : Bool := match k with
  | 0 => decide (V.int l = V.int r)
  | 1 => !decide (V.int l = V.int r)
  | 2 => decide (l < r)
  | 3 => decide (l ≤ r)
  | 4 => decide (r < l)
  | _ => decide (r ≤ l)
def lexV (k : Nat) (l r : Int) : V := if 3 ≤ k ∧ r = 0 then .non else .int (resN k l r)
/-! ### the program's promises -/
def nmS (k : Nat) : Str := (["add", "sub", "mul", "div", "mod", "rem", "less", "equal"] : List Str).getD k ""
theorem nin : ∀ k : _root_.Fin 8, inV (.str (nmS k.val)) [V.str "less", V.str "equal"] = decide (6 ≤ k.val) := by decide +kernel
theorem nin2 : ∀ k : _root_.Fin 8, inV (.str (nmS k.val)) [V.str "div", V.str "mod", V.str "rem"] = decide (3 ≤ k.val ∧ k.val < 6) := by decide +kernel
def resC (k : Nat) (l r : Int) : Int := if k < 6 then resN k l r else if k = 6 then (if l < r then 1 else 0) else (if l = r then 1 else 0)
def zer (k : Nat) (r : Int) : Prop := (3 ≤ k ∧ k < 6) ∧ r = 0
theorem isW01 (b : Bool) : isW (if b = true then 1 else 0) = true := by cases b <;> decide
def spFits : Sp := fun vs H Q _ => ∃ n : Int, vs = [.int n] ∧ Q (.bl (isW n)) H
def spW (a : Addr) : Sp := fun vs H Q E => ∃ n : Int, vs = [.int n] ∧ (isW n = true → Q (.int n) H) ∧ (isW n = false → E (.ref a) none H)
def spCmp : Sp := fun vs H Q _ => ∃ (k : Nat) (l r : Int), k < 6 ∧ vs = [.str (sgS k), .int l, .int r] ∧ Q (.bl (cmpN k l r)) H
def spQuo : Sp := fun vs H Q _ => ∃ (l r : Int), vs = [.int l, .int r] ∧ wd l ∧ wd r ∧ r ≠ 0 ∧ Q (.int (quo l r)) H
def spRes : Sp := fun vs H Q _ => ∃ (k : Nat) (l r : Int), k < 6 ∧ vs = [.str (opS k), .int l, .int r] ∧ wd l ∧ wd r ∧ (3 ≤ k → r ≠ 0) ∧ Q (.int (resN k l r)) H
def spArith (aO aD : Addr) : Sp := fun vs H Q E => ∃ (k : Nat) (l r : Int), k < 6 ∧ vs = [.str (opS k), .int l, .int r] ∧ wd l ∧ wd r ∧ ((3 ≤ k ∧ r = 0) → ∀ H', Same H H' → E (.ref aD) none H') ∧
  (¬ (3 ≤ k ∧ r = 0) → ∀ H', Same H H' → (isW (resN k l r) = true → Q (.int (resN k l r)) H') ∧ (isW (resN k l r) = false → E (.ref aO) none H'))
def spCompute (aO aD : Addr) : Sp := fun vs H Q E => ∃ (k : Nat) (l r : Int), k < 8 ∧ vs = [.str (nmS k), .int l, .int r] ∧ wd l ∧ wd r ∧ (zer k r → ∀ H', Same H H' → E (.ref aD) none H') ∧
  (¬ zer k r → ∀ H', Same H H' → (isW (resC k l r) = true → Q (.int (resC k l r)) H') ∧ (isW (resC k l r) = false → E (.ref aO) none H'))
theorem ab_pos {r : Int} (h : r ≠ 0) : 0 < ab r := by unfold ab; split <;> omega
theorem ab_small {r : Int} (h : wd r) : (ab r).natAbs < 2 ^ 33 := by
  obtain ⟨h1, h2⟩ := h
  unfold ab
  split <;> omega
theorem cdw {l r : Int} (h : wd r) (hr : r ≠ 0) : CDivW l (ab r) := wide_div (b := 33) (ab_pos hr) (ab_small h) (by decide) (by decide)
theorem cmulr {l r : Int} (h : wd r) : CMul l r := .inr ⟨by have := h.1; omega, by have := h.2; omega⟩
theorem cmull {l r : Int} (h : wd l) : CMul l r := .inl ⟨by have := h.1; omega, by have := h.2; omega⟩
section
variable {P : Program} {w : World} {K : PySem.W.Frag} {mg : Str → Option Value} {base : Heap} {a : Ad}
theorem ok_fits (T : Txt w K mg a) : FnOk P w K mg base CX0 1 a.f_fits a.d_fits ["number"] spFits := by
  refine T.F_fits.ok sc_fits (fun vs H Q E h => ?_) (fun cdv A outer s H vs Q E hr h => ?_)
  · obtain ⟨_, rfl, _⟩ := h; rfl
  · obtain ⟨n, rfl, q⟩ := h
    refine ⟨_, (pss_one (ps_ret (pe_chain op_le op_le (pe_glob (v := .int (-2147483648)) rfl T.g_MIN ⟨_, rfl⟩) (pv 0) (pe_glob (v := .int (2147483647)) rfl T.g_MAX ⟨_, rfl⟩)))), ?_⟩
    unfold isW at q
    refine ⟨_, rfl, _, _, rfl, rfl, _, rfl, ite3 (fun e => ?_) (fun e => ?_)⟩ <;> rw [e] at q
    · exact ⟨_, _, rfl, rfl, q⟩
    · exact q
theorem ok_word (T : Txt w K mg a) : FnOk P w K mg base (L2N.CX P w) 2 a.f_word a.d_word ["number"] (spW a.C_Overflow) := by
  have G_fits : FnOk P w K mg base CX0 1 _ _ _ _ := ok_fits T
  refine T.F__word.okN sc_word (fun vs H Q E h => ?_) (fun cdv A outer s H vs Q E hr h => ?_)
  · obtain ⟨_, rfl, _⟩ := h; rfl
  · obtain ⟨n, rfl, q, qe⟩ := h
    refine ⟨_, (pss_cons (ps_if (pt_not (pt_val (pe_call G_fits (hr.mono (by decide)) rfl T.g_fits T.k_fits T.bd_fits .nil pass0 (pa_cons (pv 0) pa_nil)))) (pss_one (L2N.ps_raise rfl (L2N.takes_of rfl rfl rfl rfl) (L2N.pmk_own PySem.F.excBase_ValueError T.x_Overflow T.g_Overflow T.kC_Overflow (raises_own T.s1_Overflow T.ty_Overflow) rfl))) pss_nil)
      (pss_one (ps_ret (pv 0)))), ?_⟩
    refine ⟨_, rfl, n, rfl, _, rfl, ite3 (fun e => ?_) (fun e => ?_)⟩
    · exact qe (by simpa using e)
    · exact ⟨_, rfl, q (by simpa using e)⟩
theorem ok_compare (T : Txt w K mg a) : FnOk P w K mg base CX0 1 a.f_compare a.d_compare ["op", "left", "right"] spCmp := by
  refine T.F_compare.ok sc_compare (fun vs H Q E h => ?_) (fun cdv A outer s H vs Q E hr h => ?_)
  · obtain ⟨_, _, _, _, rfl, _⟩ := h; rfl
  · obtain ⟨k, l, r, hk, rfl, q⟩ := h
    refine ⟨_, (pss_cons (ps_match (pv 0) (pmc_str (pss_one (ps_ret (pe_cmpR op_eq (pv 1) (pv 2) (nomark _)))) (pmc_str (pss_one (ps_ret (pe_cmpR op_ne (pv 1) (pv 2) (nomark _)))) (pmc_str (pss_one (ps_ret (pe_cmpR op_lt (pv 1) (pv 2) (nomark _)))) (pmc_str (pss_one (ps_ret (pe_cmpR op_le (pv 1) (pv 2) (nomark _)))) (pmc_str (pss_one (ps_ret (pe_cmpR op_gt (pv 1) (pv 2) (nomark _)))) pmc_nil))))))
      (pss_one (ps_ret (pe_cmpR op_ge (pv 1) (pv 2) (nomark _))))), ?_⟩
    refine ⟨_, rfl, rfl, ?_⟩
    rw [s0 ⟨k, hk⟩]
    refine ite3 (fun e => ?_) (fun e0 => ⟨rfl, ?_⟩)
    · obtain rfl : k = 0 := of_decide_eq_true e
      exact ⟨_, rfl, _, rfl, rfl, q⟩
    rw [s1 ⟨k, hk⟩]
    refine ite3 (fun e => ?_) (fun e1 => ⟨rfl, ?_⟩)
    · obtain rfl : k = 1 := of_decide_eq_true e
      exact ⟨_, rfl, _, rfl, rfl, q⟩
    rw [s2 ⟨k, hk⟩]
    refine ite3 (fun e => ?_) (fun e2 => ⟨rfl, ?_⟩)
    · obtain rfl : k = 2 := of_decide_eq_true e
      exact ⟨_, rfl, _, rfl, _, _, rfl, rfl, q⟩
    rw [s3 ⟨k, hk⟩]
    refine ite3 (fun e => ?_) (fun e3 => ⟨rfl, ?_⟩)
    · obtain rfl : k = 3 := of_decide_eq_true e
      exact ⟨_, rfl, _, rfl, _, _, rfl, rfl, q⟩
    rw [s4 ⟨k, hk⟩]
    refine ite3 (fun e => ?_) (fun e4 => ?_)
    · obtain rfl : k = 4 := of_decide_eq_true e
      exact ⟨_, rfl, _, rfl, _, _, rfl, rfl, q⟩
    · obtain rfl : k = 5 := by
        have := of_decide_eq_false e0; have := of_decide_eq_false e1; have := of_decide_eq_false e2; have := of_decide_eq_false e3; have := of_decide_eq_false e4
        simp only at *
        omega
      exact ⟨_, rfl, _, rfl, _, _, rfl, rfl, q⟩
theorem ok_quotient (T : Txt w K mg a) : FnOk P w K mg base CX0 1 a.f_quotient a.d_quotient ["left", "right"] spQuo := by
  refine T.F__quotient.ok sc_quotient (fun vs H Q E h => ?_) (fun cdv A outer s H vs Q E hr h => ?_)
  · obtain ⟨_, _, rfl, _⟩ := h; rfl
  · obtain ⟨l, r, rfl, hl, hr', hn, q⟩ := h
    refine ⟨_, (pss_cons (ps_set (i := 2) sc_quotient.nd rfl (Or.inl rfl) (pe_op op_fdivW (pe_callB call_abs (by rfl) T.b_abs (by decide +kernel) (pa_cons (pv 0) pa_nil)) (pe_callB call_abs (by rfl) T.b_abs (by decide +kernel) (pa_cons (pv 1) pa_nil))))
      (pss_one (ps_ret (pe_ifExp (pt_cmpR op_eq (pe_cmpR op_lt (pv 0) pe_int (nomark _)) (pe_cmpR op_lt (pv 1) pe_int (nomark _)) (nomark _)) (pv 2) (pe_un un_neg (pv 2)))))), ?_⟩
    unfold quo at q
    refine ⟨_, rfl, _, rfl, _, rfl, _, rfl, _, _, rfl, rfl, cdw (l := ab l) hr' hn, ?_⟩
    refine ⟨_, rfl, _, _, rfl, rfl, _, rfl, _, _, rfl, rfl, rfl, _, rfl, ite3 (fun e => ?_) (fun e => ?_)⟩ <;> rw [e] at q
    · exact ⟨_, rfl, q⟩
    · exact ⟨_, rfl, _, rfl, q⟩
theorem ok_result (T : Txt w K mg a) : FnOk P w K mg base CX0 2 a.f_result a.d_result ["op", "left", "right"] spRes := by
  have G_quotient : FnOk P w K mg base CX0 1 _ _ _ _ := ok_quotient T
  refine T.F__result.ok sc_result (fun vs H Q E h => ?_) (fun cdv A outer s H vs Q E hr h => ?_)
  · obtain ⟨_, _, _, _, rfl, _⟩ := h; rfl
  · obtain ⟨k, l, r, hk, rfl, hl, hr', hz, q⟩ := h
    refine ⟨_, (pss_cons (ps_match (pv 0) (pmc_str (pss_one (ps_ret (pe_op op_add (pv 1) (pv 2)))) (pmc_str (pss_one (ps_ret (pe_op op_sub (pv 1) (pv 2)))) (pmc_str (pss_one (ps_ret (pe_op op_mul (pv 1) (pv 2)))) (pmc_str (pss_one (ps_ret (pe_call G_quotient (hr.mono (by decide)) rfl T.g__quotient T.k__quotient T.bd__quotient .nil pass0 (pa_cons (pv 1) (pa_cons (pv 2) pa_nil))))) (pmc_str (pss_one (ps_ret (pe_op op_modN (pv 1) (pv 2)))) pmc_nil))))))
      (pss_one (ps_ret (pe_op op_sub (pv 1) (pe_op op_mul (pv 2) (pe_call G_quotient (hr.mono (by decide)) rfl T.g__quotient T.k__quotient T.bd__quotient .nil pass0 (pa_cons (pv 1) (pa_cons (pv 2) pa_nil)))))))), ?_⟩
    refine ⟨_, rfl, rfl, ?_⟩
    rw [o0 ⟨k, hk⟩]
    refine ite3 (fun e => ?_) (fun e0 => ⟨rfl, ?_⟩)
    · obtain rfl : k = 0 := of_decide_eq_true e
      exact ⟨_, rfl, _, rfl, _, _, rfl, rfl, q⟩
    rw [o1 ⟨k, hk⟩]
    refine ite3 (fun e => ?_) (fun e1 => ⟨rfl, ?_⟩)
    · obtain rfl : k = 1 := of_decide_eq_true e
      exact ⟨_, rfl, _, rfl, _, _, rfl, rfl, q⟩
    rw [o2 ⟨k, hk⟩]
    refine ite3 (fun e => ?_) (fun e2 => ⟨rfl, ?_⟩)
    · obtain rfl : k = 2 := of_decide_eq_true e
      exact ⟨_, rfl, _, rfl, _, _, rfl, rfl, cmull hl, q⟩
    rw [o3 ⟨k, hk⟩]
    refine ite3 (fun e => ?_) (fun e3 => ⟨rfl, ?_⟩)
    · obtain rfl : k = 3 := of_decide_eq_true e
      exact ⟨_, rfl, _, rfl, l, r, rfl, hl, hr', hz (by decide), q⟩
    rw [o4 ⟨k, hk⟩]
    refine ite3 (fun e => ?_) (fun e4 => ?_)
    · obtain rfl : k = 4 := of_decide_eq_true e
      exact ⟨_, rfl, _, rfl, _, _, rfl, rfl, hz (by decide), q⟩
    · obtain rfl : k = 5 := by
        have := of_decide_eq_false e0; have := of_decide_eq_false e1; have := of_decide_eq_false e2; have := of_decide_eq_false e3; have := of_decide_eq_false e4
        simp only at *
        omega
      exact ⟨_, rfl, _, rfl, _, rfl, _, rfl, l, r, rfl, hl, hr', hz (by decide), _, _, rfl, rfl, cmull hr', _, _, rfl, rfl, q⟩
theorem ok_arithmetic (T : Txt w K mg a) : FnOk P w K mg base (L2N.CX P w) 4 a.f_arithmetic a.d_arithmetic ["op", "left", "right"] (spArith a.C_Overflow a.C_DivisionByZero) := by
  have G_word : FnOk P w K mg base (L2N.CX P w) 2 _ _ _ _ := ok_word T
  have G_result : FnOk P w K mg base CX0 2 _ _ _ _ := ok_result T
  refine T.F_arithmetic.okN sc_arithmetic (fun vs H Q E h => ?_) (fun cdv A outer s H vs Q E hr h => ?_)
  · obtain ⟨_, _, _, _, rfl, _⟩ := h; rfl
  · obtain ⟨k, l, r, hk, rfl, hl, hr', qz, q⟩ := h
    refine ⟨_, (pss_cons (ps_if (PW.pt (pw_and (pt_cmpR op_inS (pv 0) (pe_tup (pa_cons pe_str (pa_cons pe_str (pa_cons pe_str pa_nil)))) rfl) (pw_and1 (pt_cmpR op_eq (pv 2) pe_int (nomark _))))) (pss_one (L2N.ps_raise rfl (L2N.takes_of rfl rfl rfl rfl) (L2N.pmk_own PySem.F.excBase_ValueError T.x_DivisionByZero T.g_DivisionByZero T.kC_DivisionByZero (raises_own T.s1_DivisionByZero T.ty_DivisionByZero) rfl))) pss_nil)
      (pss_one (ps_ret (pe_call G_word (hr.mono (by decide)) rfl T.g__word T.k__word T.bd__word .nil (L2N.passes_call (L2N.takes_of rfl rfl rfl rfl) fun _ _ _ _ z => z) (pa_cons (pe_call G_result (hr.mono (by decide)) rfl T.g__result T.k__result T.bd__result .nil pass0 (pa_cons (pv 0) (pa_cons (pv 1) (pa_cons (pv 2) pa_nil)))) pa_nil))))), ?_⟩
    refine ⟨_, rfl, by decide, fun p np => ⟨_, _, rfl, .inr (SqT.of upd_same), rfl, rfl, _, rfl, ?_⟩⟩
    have ss := sN (Same.refl H) np (o := .tup [V.str "/", V.str "mod", V.str "rem"])
    rw [oin ⟨k, hk⟩]
    have go : ¬ (3 ≤ k ∧ r = 0) → tRet (tCall (spW a.C_Overflow) [] E (tCons (tCall spRes [] E0 (tCons (tVar 0) (tCons (tVar 1) (tCons (tVar 2) tNil)))) tNil)) { nx := fun _ H' => Q .non H', rt := Q } [some (.str (opS k)), some (.int l), some (.int r)] (upd H p (.tup [V.str "/", V.str "mod", V.str "rem"])) := fun hn => by
      refine ⟨_, rfl, _, rfl, _, rfl, k, l, r, hk, rfl, hl, hr', fun h3 hz => hn ⟨h3, hz⟩, resN k l r, rfl, ?_⟩
      exact q hn _ ss
    refine ite3 (fun e => ⟨_, rfl, rfl, _, rfl, ite3 (fun e2 => ?_) (fun e2 => ?_)⟩) (fun e => iteF ?_)
    · have hz : r = 0 := by simpa using e2
      exact qz ⟨of_decide_eq_true e, hz⟩ _ ss
    · exact go fun h => by
        have : r ≠ 0 := by simpa using e2
        exact this h.2
    · exact go fun h => of_decide_eq_false e h.1
theorem kd_sign (T : Txt w K mg a) : ∀ k, k < 8 → KDct K w a.c_SIGNS (nmS k) (.str (if k < 6 then opS k else if k = 6 then sgS 2 else sgS 0))
  | 0, _ => T.kd_SIGNS_add
  | 1, _ => T.kd_SIGNS_sub
  | 2, _ => T.kd_SIGNS_mul
  | 3, _ => T.kd_SIGNS_div
  | 4, _ => T.kd_SIGNS_mod
  | 5, _ => T.kd_SIGNS_rem
  | 6, _ => T.kd_SIGNS_less
  | 7, _ => T.kd_SIGNS_equal
  | k + 8, h => by omega
theorem ok_compute (T : Txt w K mg a) : FnOk P w K mg base (L2N.CX P w) 5 a.f_compute a.d_compute ["name", "left", "right"] (spCompute a.C_Overflow a.C_DivisionByZero) := by
  have G_arithmetic : FnOk P w K mg base (L2N.CX P w) 4 _ _ _ _ := ok_arithmetic T
  have G_compare : FnOk P w K mg base CX0 1 _ _ _ _ := ok_compare T
  refine T.F_compute.okN sc_compute (fun vs H Q E h => ?_) (fun cdv A outer s H vs Q E hr h => ?_)
  · obtain ⟨_, _, _, _, rfl, _⟩ := h; rfl
  · obtain ⟨k, l, r, hk, rfl, hl, hr', qz, q⟩ := h
    refine ⟨_, (pss_cons (ps_set (i := 3) sc_compute.nd rfl (Or.inl rfl) (pe_ix ix_kdict (pe_glob (v := .ref a.c_SIGNS) rfl T.g_SIGNS rfl) (pv 0) (fun _ _ => rfl)))
      (pss_cons (ps_if (pt_cmpR op_inS (pv 0) (pe_tup (pa_cons pe_str (pa_cons pe_str pa_nil))) rfl) (pss_one (ps_ret (pe_callTy call_int1 (by rfl) T.b_int (by decide +kernel) (pa_cons (pe_call G_compare (hr.mono (by decide)) rfl T.g_compare T.k_compare T.bd_compare .nil pass0 (pa_cons (pv 3) (pa_cons (pv 1) (pa_cons (pv 2) pa_nil)))) pa_nil)))) pss_nil)
      (pss_one (ps_ret (pe_call G_arithmetic (hr.mono (by decide)) rfl T.g_arithmetic T.k_arithmetic T.bd_arithmetic .nil (L2N.passes_call (L2N.takes_of rfl rfl rfl rfl) fun _ _ _ _ z => z) (pa_cons (pv 3) (pa_cons (pv 1) (pa_cons (pv 2) pa_nil)))))))), ?_⟩
    refine ⟨_, rfl, _, _, _, rfl, rfl, kd_sign T k hk, ?_⟩
    refine ⟨_, rfl, by decide, fun p np => ⟨_, _, rfl, .inr (SqT.of upd_same), rfl, rfl, _, rfl, ?_⟩⟩
    have ss := sN (Same.refl H) np (o := .tup [V.str "less", V.str "equal"])
    rw [nin ⟨k, hk⟩]
    refine ite3 (fun e => ?_) (fun e => ?_)
    · have h6 : 6 ≤ k := of_decide_eq_true e
      obtain rfl | rfl : k = 6 ∨ k = 7 := by omega
      · refine ⟨_, rfl, _, rfl, _, rfl, 2, l, r, by decide, rfl, .inr ⟨_, rfl, ?_⟩⟩
        have hr1 : resC 6 l r = if decide (l < r) = true then 1 else 0 := by
          show (if l < r then (1 : Int) else 0) = _
          by_cases c : l < r <;> simp [c]
        have := (q (fun h => by have := h.1.2; omega) _ ss).1 (by rw [hr1]; exact isW01 _)
        rw [hr1] at this
        exact this
      · refine ⟨_, rfl, _, rfl, _, rfl, 0, l, r, by decide, rfl, .inr ⟨_, rfl, ?_⟩⟩
        have hr1 : resC 7 l r = if decide (V.int l = V.int r) = true then 1 else 0 := by
          show (if l = r then (1 : Int) else 0) = _
          by_cases c : l = r <;> simp [c]
        have := (q (fun h => by have := h.1.2; omega) _ ss).1 (by rw [hr1]; exact isW01 _)
        rw [hr1] at this
        exact this
    · have h6 : k < 6 := by have := of_decide_eq_false e; simp only at this; omega
      have er : resC k l r = resN k l r := if_pos h6
      rw [er] at q
      rw [if_pos h6]
      refine ⟨_, rfl, _, rfl, _, rfl, k, l, r, h6, rfl, hl, hr', fun hz H' s' => qz ⟨⟨hz.1, h6⟩, hz.2⟩ _ (ss.trans s'), fun hz H' s' => q (fun h => hz ⟨h.1.1, h.2⟩) _ (ss.trans s')⟩
/-! negate, absolute -/
def spNeg (f : Int → Int) (aO : Addr) : Sp := fun vs H Q E => ∃ n : Int, vs = [.int n] ∧ (isW (f n) = true → Q (.int (f n)) H) ∧ (isW (f n) = false → E (.ref aO) none H)
theorem ok_negate (T : Txt w K mg a) : FnOk P w K mg base (L2N.CX P w) 3 a.f_negate a.d_negate ["word"] (spNeg (fun n => -n) a.C_Overflow) := by
  have G_word : FnOk P w K mg base (L2N.CX P w) 2 _ _ _ _ := ok_word T
  refine T.F_negate.okN sc_negate (fun vs H Q E h => ?_) (fun cdv A outer s H vs Q E hr h => ?_)
  · obtain ⟨_, rfl, _⟩ := h; rfl
  · obtain ⟨n, rfl, q, qe⟩ := h
    refine ⟨_, (pss_one (ps_ret (pe_call G_word (hr.mono (by decide)) rfl T.g__word T.k__word T.bd__word .nil (L2N.passes_call (L2N.takes_of rfl rfl rfl rfl) fun _ _ _ _ z => z) (pa_cons (pe_un un_neg (pv 0)) pa_nil)))), ?_⟩
    exact ⟨_, rfl, _, rfl, -n, rfl, q, qe⟩
theorem ok_absolute (T : Txt w K mg a) : FnOk P w K mg base (L2N.CX P w) 3 a.f_absolute a.d_absolute ["word"] (spNeg ab a.C_Overflow) := by
  have G_word : FnOk P w K mg base (L2N.CX P w) 2 _ _ _ _ := ok_word T
  refine T.F_absolute.okN sc_absolute (fun vs H Q E h => ?_) (fun cdv A outer s H vs Q E hr h => ?_)
  · obtain ⟨_, rfl, _⟩ := h; rfl
  · obtain ⟨n, rfl, q, qe⟩ := h
    refine ⟨_, (pss_one (ps_ret (pe_call G_word (hr.mono (by decide)) rfl T.g__word T.k__word T.bd__word .nil (L2N.passes_call (L2N.takes_of rfl rfl rfl rfl) fun _ _ _ _ z => z) (pa_cons (pe_callB call_abs (by rfl) T.b_abs (by decide +kernel) (pa_cons (pv 0) pa_nil)) pa_nil)))), ?_⟩
    exact ⟨_, rfl, _, rfl, ab n, rfl, q, qe⟩
end

/-! ### events and fuel -/
def spEvI (C : Addr) : Sp := fun vs H Q _ => ∃ (p dx l : Addr) (ys : List V), vs = [.ref p, .ref l] ∧ H p = some (.ins C dx []) ∧ H l = some (.lst ys) ∧
  ∀ (l' r' : Addr) (H' : Hp), H l' = none → H r' = none → l' ≠ r' → H' p = some (.ins C dx (evF l' 0 r')) → H' l' = some (.lst ys) → H' r' = some (.lst []) → (∀ b o, H b = some o → b ≠ p → H' b = some o) → Q .non H'
def spEvP (C : Addr) : Sp := fun vs H Q _ => ∃ (p dx l r : Addr) (t w : Int) (ys : List V), vs = [.ref p, .int w] ∧ H p = some (.ins C dx (evF l t r)) ∧ H r = some (.lst ys) ∧ ys.length < sizeLine ∧
  ∀ q, H q = none → Q .non (upd (upd H q (.tup [.str "put", .int w])) r (.lst (ys ++ [.ref q])))
def spEvG (C CN : Addr) : Sp := fun vs H Q E => ∃ (p dx l r : Addr) (t : Nat) (is : List Int) (ys : List V), vs = [.ref p] ∧ H p = some (.ins C dx (evF l (t : Int) r)) ∧ H l = some (.lst (is.map V.int)) ∧ H r = some (.lst ys) ∧ ys.length < sizeLine ∧ t ≤ is.length ∧
  (t = is.length → E (.ref CN) none H) ∧ (∀ w, is[t]? = some w → ∀ q, H q = none → Q (.int w) (upd (upd (upd H p (.ins C dx (evF l ((t : Int) + 1) r))) q (.tup [.str "get", .int w])) r (.lst (ys ++ [.ref q]))))
def spEvR (C : Addr) : Sp := fun vs H Q _ => ∃ (p dx l r : Addr) (t : Int) (ys : List V), vs = [.ref p] ∧ H p = some (.ins C dx (evF l t r)) ∧ H r = some (.lst ys) ∧ ∀ q, H q = none → Q (.ref q) (upd H q (.tup ys))
def spFuI (C : Addr) : Sp := fun vs H Q _ => ∃ (p dx : Addr) (u : Int), vs = [.ref p, .int u] ∧ H p = some (.ins C dx []) ∧ Q .non (upd H p (.ins C dx (fuF u)))
def spFuT (C CO : Addr) : Sp := fun vs H Q E => ∃ (p dx : Addr) (u : Int), vs = [.ref p] ∧ H p = some (.ins C dx (fuF u)) ∧ (u = 0 → E (.ref CO) none H) ∧ (u ≠ 0 → Q .non (upd H p (.ins C dx (fuF (u - 1)))))
def spFuR (C : Addr) : Sp := fun vs H Q _ => ∃ (p dx : Addr) (u : Int), vs = [.ref p] ∧ H p = some (.ins C dx (fuF u)) ∧ Q (.int u) H
section
variable {P : Program} {w : World} {K : PySem.W.Frag} {mg : Str → Option Value} {base : Heap} {a : Ad}
theorem ok_Events___init__ (T : Txt w K mg a) : FnOk P w K mg base CX0 1 a.f_Events___init__ a.d_Events___init__ ["self", "inputs"] (spEvI a.C_Events) := by
  refine T.F_Events___init__.ok sc_Events___init__ (fun vs H Q E h => ?_) (fun cdv A outer s H vs Q E hr h => ?_)
  · obtain ⟨_, _, _, _, rfl, _⟩ := h; rfl
  · obtain ⟨p, dx, l, ys, rfl, hp, hl, q⟩ := h
    refine ⟨_, (pss_cons (ps_fld (pv 0) (pe_callTy call_list_of (by rfl) T.b_list (by decide +kernel) (pa_cons (pv 1) pa_nil)) rfl)
      (pss_cons (ps_fld (pv 0) pe_int rfl)
      (pss_one (ps_fld (pv 0) (pe_lst pa_nil) rfl)))), ?_⟩
    refine ⟨_, rfl, l, ys, rfl, .inl (SqL.of hl), fun l' nl => ?_⟩
    have npl : p ≠ l' := ne_of_none hp nl
    refine ⟨_, rfl, p, a.C_Events, dx, [], rfl, by rw [upd_ne npl]; exact hp, T.cl_Events, T.n_Events__inputs, (by show 0 < 1000; decide), ?_⟩
    refine ⟨_, rfl, p, a.C_Events, dx, _, rfl, upd_same, T.cl_Events, T.n_Events__taken, (by show 1 < 1000; decide), ?_⟩
    rw [upd_upd]
    refine ⟨by decide, fun r' nr => ?_⟩
    have npr : p ≠ r' := ne_of_none upd_same nr
    have nlr : l' ≠ r' := by
      have : upd (upd H l' (.lst ys)) p (.ins a.C_Events dx (putF "_taken" (.int 0) (putF "_inputs" (.ref l') []))) l' = some (.lst ys) := by rw [upd_ne npl.symm, upd_same]
      exact ne_of_none this nr
    have nr0 : H r' = none := by
      rw [upd_ne npr.symm, upd_ne nlr.symm] at nr
      exact nr
    refine ⟨_, rfl, p, a.C_Events, dx, _, rfl, by rw [upd_ne npr, upd_same], T.cl_Events, T.n_Events__rows, ?_, ?_⟩
    · exact evF_len2 _ _
    refine q l' r' _ nl nr0 nlr ?_ ?_ ?_ fun b o e nb => ?_
    · rw [upd_same]
      exact congrArg (fun z => some (HO.ins a.C_Events dx z)) (evF_mk l' 0 r')
    · rw [upd_ne npl.symm, upd_ne nlr, upd_ne npl.symm, upd_same]
    · rw [upd_ne npr.symm, upd_same]
    · rw [upd_ne nb, upd_ne (ne_of_none e nr0), upd_ne nb, upd_ne (ne_of_none e nl)]
      exact e
theorem ok_Events_put (T : Txt w K mg a) : FnOk P w K mg base CX0 1 a.f_Events_put a.d_Events_put ["self", "word"] (spEvP a.C_Events) := by
  refine T.F_Events_put.ok sc_Events_put (fun vs H Q E h => ?_) (fun cdv A outer s H vs Q E hr h => ?_)
  · obtain ⟨_, _, _, _, _, _, _, rfl, _⟩ := h; rfl
  · obtain ⟨p, dx, l, r, t, w, ys, rfl, hp, hr', hy, q⟩ := h
    refine ⟨_, (pss_one (ps_expr (pe_bm PySem.F.plainAttrs_list PySem.F.slot_list_append PySem.F.type_list_append mt_append (pe_fld (pv 0) rfl) (pa_cons (pe_tup (pa_cons pe_str (pa_cons (pv 1) pa_nil))) pa_nil)))), ?_⟩
    refine ⟨_, rfl, p, a.C_Events, dx, _, _, rfl, hp, T.cl_Events, T.n_Events__rows, evF__rows _ _ _, .inl ⟨rfl, _, SqL.of hr'⟩, ?_⟩
    refine ⟨_, rfl, (by show 2 ≤ sizeLine; decide), fun z nz => ⟨r, ys, _, rfl, rfl, by rw [upd_ne (ne_of_none hr' nz)]; exact hr', hy, q z nz⟩⟩
theorem ok_Events_get (T : Txt w K mg a) : FnOk P w K mg base (L2N.CX P w) 3 a.f_Events_get a.d_Events_get ["self"] (spEvG a.C_Events a.C_NoInput) := by
  refine T.F_Events_get.okN sc_Events_get (fun vs H Q E h => ?_) (fun cdv A outer s H vs Q E hr h => ?_)
  · obtain ⟨_, _, _, _, _, _, _, rfl, _⟩ := h; rfl
  · obtain ⟨p, dx, l, r, t, is, ys, rfl, hp, hl, hr', hy, ht, qe, q⟩ := h
    refine ⟨_, (pss_cons (ps_if (pt_cmpR op_eq (pe_fld (pv 0) rfl) (pe_callB call_len_seq (by rfl) T.b_len (by decide +kernel) (pa_cons (pe_fld (pv 0) rfl) pa_nil)) (nomark _)) (pss_one (L2N.ps_raise rfl (L2N.takes_of rfl rfl rfl rfl) (L2N.pmk_own PySem.F.excBase_ValueError T.x_NoInput T.g_NoInput T.kC_NoInput (raises_own T.s1_NoInput T.ty_NoInput) rfl))) pss_nil)
      (pss_cons (ps_set (i := 1) sc_Events_get.nd rfl (Or.inl rfl) (pe_ix ix_list (pe_fld (pv 0) rfl) (pe_fld (pv 0) rfl) (fun _ _ => rfl)))
      (pss_cons (ps_fldaug (pv 0) pe_int in_add)
      (pss_cons (ps_expr (pe_bm PySem.F.plainAttrs_list PySem.F.slot_list_append PySem.F.type_list_append mt_append (pe_fld (pv 0) rfl) (pa_cons (pe_tup (pa_cons pe_str (pa_cons (pv 1) pa_nil))) pa_nil)))
      (pss_one (ps_ret (pv 1))))))), ?_⟩
    refine ⟨_, rfl, p, a.C_Events, dx, _, _, rfl, hp, T.cl_Events, T.n_Events__taken, evF__taken _ _ _, _, rfl, p, a.C_Events, dx, _, _, rfl, hp, T.cl_Events, T.n_Events__inputs, evF__inputs _ _ _, _, _, rfl, .inl (SqL.of hl), rfl, _, rfl, ite3 (fun e => ?_) (fun e => ?_)⟩
    · have e' : (t : Int) = (is.length : Int) := by simpa using e
      exact qe (by omega)
    · have hlt : t < is.length := by
        have : ¬ (t : Int) = (is.length : Int) := by simpa using e
        omega
      refine ⟨_, rfl, p, a.C_Events, dx, _, _, rfl, hp, T.cl_Events, T.n_Events__inputs, evF__inputs _ _ _, _, rfl, p, a.C_Events, dx, _, _, rfl, hp, T.cl_Events, T.n_Events__taken, evF__taken _ _ _, _, _, _, _, rfl, rfl, SqL.of hl, atI_nat (v := V.int is[t]) (by simp [hlt]), ?_⟩
      refine ⟨_, rfl, p, a.C_Events, dx, _, _, rfl, hp, T.cl_Events, T.n_Events__taken, evF__taken _ _ _, _, _, rfl, rfl, dx, _, hp, (by show 3 < 1000; decide), ?_⟩
      have e1 : putF "_taken" (V.int ((t : Int) + 1)) (evF l (t : Int) r) = evF l ((t : Int) + 1) r := evF_put__taken l _ r _
      rw [e1]
      have npr : r ≠ p := ne_of hr' hp (by intro z; cases z)
      refine ⟨_, rfl, p, a.C_Events, dx, _, _, rfl, upd_same, T.cl_Events, T.n_Events__rows, evF__rows _ _ _, .inl ⟨rfl, _, SqL.of (by rw [upd_ne npr]; exact hr')⟩, ?_⟩
      refine ⟨_, rfl, (by show 2 ≤ sizeLine; decide), fun z nz => ?_⟩
      have nzp : z ≠ p := (ne_of_none upd_same nz).symm
      have nz0 : H z = none := by rw [upd_ne nzp] at nz; exact nz
      refine ⟨r, ys, _, rfl, rfl, by rw [upd_ne (ne_of_none hr' nz0), upd_ne npr]; exact hr', hy, _, rfl, ?_⟩
      exact q is[t] (by simp [hlt]) z nz0
theorem ok_Events_rows (T : Txt w K mg a) : FnOk P w K mg base CX0 1 a.f_Events_rows a.d_Events_rows ["self"] (spEvR a.C_Events) := by
  refine T.F_Events_rows.ok sc_Events_rows (fun vs H Q E h => ?_) (fun cdv A outer s H vs Q E hr h => ?_)
  · obtain ⟨_, _, _, _, _, _, rfl, _⟩ := h; rfl
  · obtain ⟨p, dx, l, r, t, ys, rfl, hp, hr', q⟩ := h
    refine ⟨_, (pss_one (ps_ret (pe_callTy call_tuple_of (by rfl) T.b_tuple (by decide +kernel) (pa_cons (pe_fld (pv 0) rfl) pa_nil)))), ?_⟩
    exact ⟨_, rfl, p, a.C_Events, dx, _, _, rfl, hp, T.cl_Events, T.n_Events__rows, evF__rows _ _ _, r, ys, rfl, .inl ⟨SqL.of hr', fun z nz => q z nz⟩⟩
theorem ok_Fuel___init__ (T : Txt w K mg a) : FnOk P w K mg base CX0 1 a.f_Fuel___init__ a.d_Fuel___init__ ["self", "units"] (spFuI a.C_Fuel) := by
  refine T.F_Fuel___init__.ok sc_Fuel___init__ (fun vs H Q E h => ?_) (fun cdv A outer s H vs Q E hr h => ?_)
  · obtain ⟨_, _, _, rfl, _⟩ := h; rfl
  · obtain ⟨p, dx, u, rfl, hp, q⟩ := h
    refine ⟨_, (pss_one (ps_fld (pv 0) (pv 1) rfl)), ?_⟩
    exact ⟨_, rfl, _, rfl, p, a.C_Fuel, dx, [], rfl, hp, T.cl_Fuel, T.n_Fuel__left, (by show 0 < 1000; decide), q⟩
theorem ok_Fuel_tick (T : Txt w K mg a) : FnOk P w K mg base (L2N.CX P w) 3 a.f_Fuel_tick a.d_Fuel_tick ["self"] (spFuT a.C_Fuel a.C_OutOfFuel) := by
  refine T.F_Fuel_tick.okN sc_Fuel_tick (fun vs H Q E h => ?_) (fun cdv A outer s H vs Q E hr h => ?_)
  · obtain ⟨_, _, _, rfl, _⟩ := h; rfl
  · obtain ⟨p, dx, u, rfl, hp, qe, q⟩ := h
    refine ⟨_, (pss_cons (ps_if (pt_cmpR op_eq (pe_fld (pv 0) rfl) pe_int (nomark _)) (pss_one (L2N.ps_raise rfl (L2N.takes_of rfl rfl rfl rfl) (L2N.pmk_own PySem.F.excBase_ValueError T.x_OutOfFuel T.g_OutOfFuel T.kC_OutOfFuel (raises_own T.s1_OutOfFuel T.ty_OutOfFuel) rfl))) pss_nil)
      (pss_one (ps_fldaug (pv 0) pe_int in_sub))), ?_⟩
    refine ⟨_, rfl, p, a.C_Fuel, dx, _, _, rfl, hp, T.cl_Fuel, T.n_Fuel__left, fuF__left _, rfl, _, rfl, ite3 (fun e => ?_) (fun e => ?_)⟩
    · exact qe (by simpa using e)
    · refine ⟨_, rfl, p, a.C_Fuel, dx, _, _, rfl, hp, T.cl_Fuel, T.n_Fuel__left, fuF__left _, _, _, rfl, rfl, dx, _, hp, (by show 1 < 1000; decide), ?_⟩
      have e1 : putF "_left" (V.int (u - 1)) (fuF u) = fuF (u - 1) := fuF_put__left u _
      rw [e1]
      exact q (by simpa using e)
end

/-! ### enumerate(zip(a tuple, a list)) -/
namespace EZ
open PySem PySem.Spec PyProof.Rows
/-- a zip object, by its mark of the pair that is out -/
abbrev IsZ (h : Heap) (z TI TO : Addr) (f0 : Value) (f : Bool) : Prop := h.get? z = some { cls := .type "zip", dict := none, data := .fields #[f0, .bool f, .bool false, .ref TI, .ref TO], slots := #[] }
def MarkOk (f0 : Value) : Prop := f0 = .none ∨ ∃ T : Nat, f0 = rawInt (T : Int)
section
variable {P : Program} {w : World} {A : Around} {E : Value → Shared → Prop} {s : Shared} {z TI TO i1 i2 : Addr} {fp1 fp2 : List Addr} {n1 n2 i : Nat} {P1 P2 : Nat → Value → Prop} {St1 St2 : Nat → Heap → Prop} {a1 a2 f0 : Value} {f : Bool}
theorem alive_any {a : Addr} {Q : Option Obj → Shared → Prop} (h : Q (s.heap.get? a) s) : wpAny (model P w) A (loadIfAlive a) Q E s := fun _ _ _ => h
theorem zfree {Q : Bool → Shared → Prop} (hz : IsZ s.heap z TI TO f0 f) (hf : MarkOk f0) (q1 : Q true s) (q2 : ∀ h', IsZ h' z TI TO f0 true → Heap.SameBut z s.heap h' → Q false { s with heap := h' }) :
    wpAny (model P w) A (Builtin.SmallTypes.ownedTupleIsFree (.ref z)) Q E s := by
  unfold Builtin.SmallTypes.ownedTupleIsFree
  refine wpAny_bind (wpAny_field hz rfl (x := f0) rfl ?_)
  rcases hf with e | ⟨T, e⟩
  · subst e; exact wpAny_pure q1
  · subst e
    show wpAny _ _ (loadIfAlive ((T : Int).toNat) >>= _) _ _ _; rw [Int.toNat_natCast]
    refine wpAny_bind (alive_any ?_)
    cases hT : s.heap.get? T with
    | none => simp only [Option.isNone_none, if_true]; exact wpAny_pure q1
    | some oT =>
      simp only [Option.isNone_some, Bool.false_eq_true, if_false]
      refine wpAny_bind (wpAny_field hz rfl (x := .bool f) rfl ?_)
      cases f with
      | true => rw [if_neg (by decide)]; exact wpAny_pure (q2 s.heap hz (Heap.SameBut.refl _ _))
      | false => rw [if_pos (by decide)]; exact wpAny_bind (wpAny_setField_rec hz (by simp) fun h₁ hz₁ hs₁ => wpAny_pure (q2 h₁ hz₁ hs₁))
/-- what a turn of the zip leaves -/
structure ZOut (z TI TO i1 i2 : Addr) (P1 P2 : Nat → Value → Prop) (St1 St2 : Nat → Heap → Prop) (i : Nat) (h : Heap) (x1 x2 : Value) (h' : Heap) : Prop where
  p1 : P1 i x1
  p2 : P2 i x2
  zz : ∃ f0' f', MarkOk f0' ∧ IsZ h' z TI TO f0' f'
  oo : ∃ b1 b2, IsTupOf2 h' TO b1 b2
  s1 : St1 (i + 1) h'
  s2 : St2 (i + 1) h'
  T : IsTupOf2 h' h.objs.size x1 x2
  sz : h'.objs.size = h.objs.size + 1
  k : ∀ c o, c ≠ z → c ≠ TO → c ≠ i1 → c ≠ i2 → h.get? c = some o → h'.get? c = some o
theorem zip_item {Q : Value → Shared → Prop} (S : ZipSep2 z TI TO i1 i2 fp1 fp2) (D1 : Draws P w A i1 fp1 n1 P1 St1) (D2 : Draws P w A i2 fp2 n2 P2 St2)
    (hz : IsZ s.heap z TI TO f0 f) (hf : MarkOk f0) (hTI : IsTupOf2 s.heap TI (.ref i1) (.ref i2)) (hTO : IsTupOf2 s.heap TO a1 a2) (st1 : St1 i s.heap) (st2 : St2 i s.heap) (l1 : i < n1) (l2 : i < n2)
    (hQ : ∀ x1 x2 h' tk, ZOut z TI TO i1 i2 P1 P2 St1 St2 i s.heap x1 x2 h' → Q (.ref s.heap.objs.size) { s with heap := h', toks := tk }) :
    wpAny (model P w) A (Builtin.«zip.__next__» ⟨[.ref z], []⟩) (fun fin s' => ∃ v, fin = .done (.ret v) ∧ Q v s') E s := by
  obtain ⟨hp, g, d, tk0, os⟩ := s
  show wpAny _ _ (field (.ref z) 2 >>= _) _ _ _; refine wpAny_bind (wpAny_field hz rfl (x := .bool false) rfl ?_)
  show wpAny _ _ (field (.ref z) 3 >>= _) _ _ _; refine wpAny_bind (wpAny_field hz rfl (x := .ref TI) rfl ?_); refine wpAny_bind (wpAny_seqItems hTI rfl ?_)
  show wpAny _ _ (Builtin.SmallTypes.ownedTupleIsFree (.ref z) >>= _) _ _ _; refine wpAny_bind (zfree hz hf ?_ fun hA zA sA => ?_)
  · simp only [if_true]
    refine wpAny_bind (wpAny_rule ?_); refine wpAny_bind (wpAny_field hz rfl (x := .ref TO) rfl ?_)
    refine wpAny_bind (wpAny_setField_rec hz (by simp) fun g0 z0 s0 => ?_)
    replace z0 : IsZ g0 z TI TO .ellipsis f := z0; replace s0 : Heap.SameBut z hp g0 := s0
    refine wpAny_bind ?_; simp only [List.zipIdx_cons, List.zipIdx_nil, List.forIn_cons, List.forIn_nil]
    refine wpAny_bind (wpAny_bind (wpAny_onRaise ?_)); show wpAny _ _ (Builtin.SmallTypes.nextOf (.ref i1) >>= _) _ _ ⟨g0, g, d, tk0, os⟩
    refine wpAny_bind (D1.item i _ _ _ l1 (D1.over st1 s0 S.zf1) fun x1 b1 t1 hx1 n1' q1 => wpAny_pure ?_); replace q1 : Heap.SameBut i1 g0 b1 := q1
    have u1 : IsTupOf2 b1 TO a1 a2 := q1.extBut _ _ S.Ti1 (s0.extBut _ _ S.TOz hTO)
    refine wpAny_bind (wpAny_seqItems (s := ⟨b1, g, d, t1, os⟩) u1 rfl ?_); refine wpAny_bind (updateSeq_IsTupOf2 (s := ⟨b1, g, d, t1, os⟩) u1 fun g1 v1 s1 => ?_)
    replace v1 : IsTupOf2 g1 TO x1 a2 := v1; replace s1 : Heap.SameBut TO b1 g1 := s1
    refine wpAny_bind (wpAny_letGo (wpAny_pure ?_)); refine wpAny_bind (wpAny_bind (wpAny_onRaise ?_)); show wpAny _ _ (Builtin.SmallTypes.nextOf (.ref i2) >>= _) _ _ ⟨g1, g, d, t1, os⟩
    refine wpAny_bind (D2.item i _ _ _ l2 (D2.over (D2.over (D2.over st2 s0 S.zf2) q1 S.sep1_2) s1 S.Tf2) fun x2 b2 t2 hx2 n2' q2 => wpAny_pure ?_); replace q2 : Heap.SameBut i2 g1 b2 := q2
    have u2 : IsTupOf2 b2 TO x1 a2 := q2.extBut _ _ S.Ti2 v1
    refine wpAny_bind (wpAny_seqItems (s := ⟨b2, g, d, t2, os⟩) u2 rfl ?_); refine wpAny_bind (updateSeq_IsTupOf2 (s := ⟨b2, g, d, t2, os⟩) u2 fun g2 v2 s2 => ?_)
    replace v2 : IsTupOf2 g2 TO x1 x2 := v2; replace s2 : Heap.SameBut TO b2 g2 := s2
    refine wpAny_bind (wpAny_letGo (wpAny_pure (wpAny_pure ?_))); refine wpAny_bind (wpAny_seqItems (s := ⟨g2, g, d, t2, os⟩) v2 rfl ?_); refine wpAny_bind (wpAny_newTuple ?_)
    have es : g2.objs.size = hp.objs.size := by rw [s2.1, q2.1, s1.1, q1.1, s0.1]
    have zz : IsZ g2 z TI TO .ellipsis f := s2.extBut _ _ S.TOz.symm (q2.extBut _ _ S.zi2 (s1.extBut _ _ S.TOz.symm (q1.extBut _ _ S.zi1 z0)))
    have kk : ∀ c o, c ≠ z → c ≠ TO → c ≠ i1 → c ≠ i2 → hp.get? c = some o → g2.get? c = some o := fun c o cz cT c1 c2 e => s2.extBut _ _ cT (q2.extBut _ _ c2 (s1.extBut _ _ cT (q1.extBut _ _ c1 (s0.extBut _ _ cz e))))
    have j1 : St1 (i + 1) g2 := D1.over (D1.over (D1.over n1' s1 S.Tf1) q2 S.sep2_1) s2 S.Tf1
    have j2 : St2 (i + 1) g2 := D2.over n2' s2 S.Tf2
    have zl : z < g2.objs.size := Heap.lt_size zz
    show wpAny _ _ (Builtin.SmallTypes.ownedTupleHandOut (.ref z) (.ref g2.objs.size) >>= _) _ _ ⟨g2.push { cls := .type "tuple", data := .seq #[x1, x2] }, g, d, t2, os⟩
    refine wpAny_bind ?_; unfold Builtin.SmallTypes.ownedTupleHandOut
    have z6 : IsZ (g2.push { cls := .type "tuple", data := .seq #[x1, x2] }) z TI TO .ellipsis f := Heap.get?_push_of_some _ zz
    refine wpAny_bind (wpAny_setField_rec z6 (by simp) fun h7 z7 s7 => ?_); replace z7 : IsZ h7 z TI TO (rawInt g2.objs.size) f := z7
    refine wpAny_setField_rec z7 (by simp) fun h8 z8 s8 => ?_; replace z8 : IsZ h8 z TI TO (rawInt g2.objs.size) false := z8
    replace s7 : Heap.SameBut z (g2.push { cls := .type "tuple", data := .seq #[x1, x2] }) h7 := s7; replace s8 : Heap.SameBut z h7 h8 := s8
    have up : ∀ c o, c ≠ z → g2.get? c = some o → h8.get? c = some o := fun c o c1 e => s8.extBut _ _ c1 (s7.extBut _ _ c1 (Heap.get?_push_of_some _ e))
    have T8 : IsTupOf2 h8 g2.objs.size x1 x2 := s8.extBut _ _ (Nat.ne_of_gt zl) (s7.extBut _ _ (Nat.ne_of_gt zl) (Heap.get?_push_size _ rfl))
    have e8 : h8.objs.size = g2.objs.size + 1 := by rw [s8.1, s7.1, Heap.size_push]
    rw [es] at T8 e8
    refine wpAny_pure ⟨_, rfl, ?_⟩; show Q (.ref g2.objs.size) ⟨h8, g, d, t2, os⟩; rw [es]
    exact hQ x1 x2 h8 t2 ⟨hx1, hx2, ⟨_, _, .inr ⟨_, rfl⟩, z8⟩, ⟨_, _, up _ _ S.TOz v2⟩, D1.frame _ _ _ j1 fun b hb o e => up b o (fun q => S.zf1 (q ▸ hb)) e, D2.frame _ _ _ j2 fun b hb o e => up b o (fun q => S.zf2 (q ▸ hb)) e, T8, e8, fun c o cz cT c1 c2 e => up c o cz (kk c o cz cT c1 c2 e)⟩
  · simp only [Bool.false_eq_true, if_false]
    replace zA : IsZ hA z TI TO f0 true := zA; replace sA : Heap.SameBut z hp hA := sA
    refine wpAny_bind ?_; rw [← Array.forIn_toList]; simp only [List.forIn_cons, List.forIn_nil]
    refine wpAny_bind (wpAny_bind (wpAny_holding ?_)); show wpAny _ _ (Builtin.SmallTypes.nextOf (.ref i1) >>= _) _ _ ⟨hA, g, d, tk0, os⟩
    refine wpAny_bind (D1.item i _ _ _ l1 (D1.over st1 sA S.zf1) fun x1 b1 t1 hx1 n1' q1 => wpAny_pure ?_); replace q1 : Heap.SameBut i1 hA b1 := q1
    refine wpAny_pure ?_; refine wpAny_bind (wpAny_bind (wpAny_holding ?_)); show wpAny _ _ (Builtin.SmallTypes.nextOf (.ref i2) >>= _) _ _ ⟨b1, g, d, t1, os⟩
    refine wpAny_bind (D2.item i _ _ _ l2 (D2.over (D2.over st2 sA S.zf2) q1 S.sep1_2) fun x2 b2 t2 hx2 n2' q2 => wpAny_pure ?_); replace q2 : Heap.SameBut i2 b1 b2 := q2
    refine wpAny_pure (wpAny_pure ?_); show wpAny _ _ (newTuple [x1, x2] >>= _) _ _ _; refine wpAny_bind (wpAny_newTuple ?_)
    have es : b2.objs.size = hp.objs.size := by rw [q2.1, q1.1, sA.1]
    have up : ∀ c o, b2.get? c = some o → (b2.push { cls := .type "tuple", data := .seq #[x1, x2] }).get? c = some o := fun c o e => Heap.get?_push_of_some _ e
    have kk : ∀ c o, c ≠ z → c ≠ i1 → c ≠ i2 → hp.get? c = some o → b2.get? c = some o := fun c o cz c1 c2 e => q2.extBut _ _ c2 (q1.extBut _ _ c1 (sA.extBut _ _ cz e))
    have T8 : IsTupOf2 (b2.push { cls := .type "tuple", data := .seq #[x1, x2] }) b2.objs.size x1 x2 := Heap.get?_push_size _ rfl
    have e8 : (b2.push { cls := .type "tuple", data := .seq #[x1, x2] }).objs.size = b2.objs.size + 1 := Heap.size_push ..
    rw [es] at T8 e8
    refine wpAny_pure ⟨_, rfl, ?_⟩; show Q (.ref b2.objs.size) _; rw [es]
    have j1 : St1 (i + 1) b2 := D1.over n1' q2 S.sep2_1
    exact hQ x1 x2 _ t2 ⟨hx1, hx2, ⟨_, _, hf, up _ _ (q2.extBut _ _ S.zi2 (q1.extBut _ _ S.zi1 zA))⟩, ⟨_, _, up _ _ (kk _ _ S.TOz S.Ti1 S.Ti2 hTO)⟩, D1.frame _ _ _ j1 fun b hb o e => up b o e, D2.frame _ _ _ n2' fun b hb o e => up b o e, T8, e8, fun c o cz cT c1 c2 e => up c o (kk c o cz c1 c2 e)⟩
theorem zip_end {Q : Fin → Shared → Prop} (S : ZipSep2 z TI TO i1 i2 fp1 fp2) (D1 : Draws P w A i1 fp1 n1 P1 St1)
    (hz : IsZ s.heap z TI TO f0 f) (hf : MarkOk f0) (hTI : IsTupOf2 s.heap TI (.ref i1) (.ref i2)) (st1 : St1 n1 s.heap)
    (hE : ∀ h' e, (∀ c o, c ≠ z → c ≠ i1 → s.heap.get? c = some o → h'.get? c = some o) → (∃ o, h'.get? e = some o ∧ o.cls = .type "StopIteration") → E (.ref e) { s with heap := h' }) :
    wpAny (model P w) A (Builtin.«zip.__next__» ⟨[.ref z], []⟩) Q E s := by
  obtain ⟨hp, g, d, tk0, os⟩ := s
  show wpAny _ _ (field (.ref z) 2 >>= _) _ _ _; refine wpAny_bind (wpAny_field hz rfl (x := .bool false) rfl ?_)
  show wpAny _ _ (field (.ref z) 3 >>= _) _ _ _; refine wpAny_bind (wpAny_field hz rfl (x := .ref TI) rfl ?_); refine wpAny_bind (wpAny_seqItems hTI rfl ?_)
  show wpAny _ _ (Builtin.SmallTypes.ownedTupleIsFree (.ref z) >>= _) _ _ _; refine wpAny_bind (zfree hz hf ?_ fun hA zA sA => ?_)
  · simp only [if_true]
    refine wpAny_bind (wpAny_rule ?_); refine wpAny_bind (wpAny_field hz rfl (x := .ref TO) rfl ?_)
    refine wpAny_bind (wpAny_setField_rec hz (by simp) fun g0 z0 s0 => ?_)
    replace z0 : IsZ g0 z TI TO .ellipsis f := z0; replace s0 : Heap.SameBut z hp g0 := s0
    refine wpAny_bind ?_; simp only [List.zipIdx_cons, List.zipIdx_nil, List.forIn_cons, List.forIn_nil]
    refine wpAny_bind (wpAny_bind (wpAny_onRaise ?_)); show wpAny _ _ (Builtin.SmallTypes.nextOf (.ref i1) >>= _) _ _ ⟨g0, g, d, tk0, os⟩
    refine wpAny_bind (D1.done ⟨g0, g, d, tk0, os⟩ _ _ (D1.over st1 s0 S.zf1) fun q e hq he => ?_)
    replace hq : Heap.ExtBut i1 g0 q := hq; obtain ⟨oe, hoe, hce⟩ := he; replace hoe : q.get? e = some oe := hoe
    have zq : IsZ q z TI TO .ellipsis f := hq _ _ S.zi1 z0
    have ez : e ≠ z := fun x => by subst x; rw [zq] at hoe; cases hoe; simp at hce
    refine wpAny_setField_rec (s := ⟨q, g, d, tk0, os⟩) zq (by simp) fun q' _ hq' => ?_; replace hq' : Heap.SameBut z q q' := hq'
    exact hE q' e (fun c o cz c1 x => hq'.extBut _ _ cz (hq _ _ c1 (s0.extBut _ _ cz x))) ⟨oe, hq'.extBut _ _ ez hoe, hce⟩
  · simp only [Bool.false_eq_true, if_false]
    replace zA : IsZ hA z TI TO f0 true := zA; replace sA : Heap.SameBut z hp hA := sA
    refine wpAny_bind ?_; rw [← Array.forIn_toList]; simp only [List.forIn_cons, List.forIn_nil]
    refine wpAny_bind (wpAny_bind (wpAny_holding ?_)); show wpAny _ _ (Builtin.SmallTypes.nextOf (.ref i1) >>= _) _ _ ⟨hA, g, d, tk0, os⟩
    refine wpAny_bind (D1.done ⟨hA, g, d, tk0, os⟩ _ _ (D1.over st1 sA S.zf1) fun q e hq he => ?_)
    replace hq : Heap.ExtBut i1 hA q := hq
    exact hE q e (fun c o cz c1 x => hq _ _ c1 (sA.extBut _ _ cz x)) he
end
end EZ

namespace EZ
open PySem PySem.Spec PyProof.Rows
section
variable {P : Program} {w : World} {A : Around} {E : Value → Shared → Prop} {s : Shared}
/-- a turn of enumerate over anything that gives the next item -/
theorem enum_item {e it : Addr} {c : Int} {old : Value} {Q : Value → Shared → Prop} (he : IsEnum s.heap e it c old)
    (hin : wpAny (model P w) A (Builtin.SmallTypes.nextOf (.ref it)) (fun x s1 => IsEnum s1.heap e it c old ∧ ∀ h' tk, IsEnumOut h' e it (c + 1) x s1.heap.objs.size → h'.get? s1.heap.objs.size = some { cls := .type "tuple", data := .seq #[.int c tk, x] } → h'.objs.size = s1.heap.objs.size + 1 →
      (∀ b o, b ≠ e → s1.heap.get? b = some o → h'.get? b = some o) → Q (.ref s1.heap.objs.size) { s1 with heap := h', toks := tk + 1 }) E s) :
    wpAny (model P w) A (Builtin.«enumerate.__next__» ⟨[.ref e], []⟩) (fun fin s' => ∃ v, fin = .done (.ret v) ∧ Q v s') E s := by
  show wpAny _ _ (field (.ref e) 2 >>= _) _ _ _; refine wpAny_bind (wpAny_field he rfl (x := .ref it) rfl ?_)
  refine wpAny_bind (wpAny_mono hin (fun x s1 ⟨e1, hQ⟩ => ?_) fun _ _ z => z)
  obtain ⟨hp, g, d, tk, os⟩ := s1
  show wpAny _ _ (field (.ref e) 3 >>= _) _ _ ⟨hp, g, d, tk, os⟩; refine wpAny_bind (wpAny_field e1 rfl (x := rawInt c) rfl ?_)
  show wpAny _ _ (field (.ref e) 4 >>= _) _ _ ⟨hp, g, d, tk, os⟩; refine wpAny_bind (wpAny_field e1 rfl (x := .none) rfl ?_)
  show wpAny _ _ (mkInt c >>= _) _ _ ⟨hp, g, d, tk, os⟩; refine wpAny_bind (wpAny_mkInt ?_)
  show wpAny _ _ (setField (.ref e) 3 (rawInt (c + 1)) >>= _) _ _ ⟨hp, g, d, tk + 1, os⟩; refine wpAny_bind (wpAny_setField_rec e1 (by simp) fun h2 e2 s2 => ?_)
  replace s2 : Heap.SameBut e hp h2 := s2; replace e2 : IsEnum h2 e it (c + 1) old := e2
  show wpAny _ _ (setField (.ref e) 4 .none >>= _) _ _ ⟨h2, g, d, tk + 1, os⟩; refine wpAny_bind (wpAny_setField_rec e2 (by simp) fun h3 e3 s3 => ?_)
  replace s3 : Heap.SameBut e h2 h3 := s3; replace e3 : IsEnum h3 e it (c + 1) old := e3
  show wpAny _ _ (newTuple [.int c tk, x] >>= _) _ _ ⟨h3, g, d, tk + 1, os⟩; refine wpAny_bind (wpAny_newTuple ?_)
  have e4 : IsEnum (h3.push { cls := .type "tuple", data := .seq #[.int c tk, x] }) e it (c + 1) old := Heap.get?_push_of_some _ e3
  have es : h3.objs.size = hp.objs.size := by rw [s3.1, s2.1]
  have el : e < h3.objs.size := Heap.lt_size e3
  have T4 : (h3.push { cls := .type "tuple", data := .seq #[.int c tk, x] }).get? h3.objs.size = some { cls := .type "tuple", data := .seq #[.int c tk, x] } := Heap.get?_push_size _ rfl
  have z4 : (h3.push { cls := .type "tuple", data := .seq #[.int c tk, x] }).objs.size = h3.objs.size + 1 := Heap.size_push ..
  have k4 : ∀ b o, b ≠ e → hp.get? b = some o → (h3.push { cls := .type "tuple", data := .seq #[.int c tk, x] }).get? b = some o := fun b o hb q => Heap.get?_push_of_some _ (s3.extBut b o hb (s2.extBut b o hb q))
  show wpAny _ _ (Builtin.SmallTypes.ownedTupleIsFree (.ref e) >>= _) _ _ ⟨h3.push { cls := .type "tuple", data := .seq #[.int c tk, x] }, g, d, tk + 1, os⟩
  rw [es] at T4 z4 el ⊢
  generalize h3.push { cls := .type "tuple", data := .seq #[.int c tk, x] } = h4 at e4 T4 z4 k4 ⊢
  clear e3 s3 e2 s2 es h3 h2
  refine wpAny_bind ?_; unfold Builtin.SmallTypes.ownedTupleIsFree
  refine wpAny_bind (wpAny_field e4 rfl (x := .none) rfl (wpAny_pure ?_)); simp only [if_true]
  refine wpAny_bind (wpAny_rule ?_); refine wpAny_bind (wpAny_field e4 rfl (x := old) rfl ?_)
  refine wpAny_bind (wpAny_setField_rec e4 (by simp) fun h5 e5 s5 => ?_); replace s5 : Heap.SameBut e h4 h5 := s5; replace e5 : IsEnum h5 e it (c + 1) x := e5
  show wpAny _ _ (Builtin.SmallTypes.ownedTupleHandOut (.ref e) (.ref hp.objs.size) >>= _) _ _ ⟨h5, g, d, tk + 1, os⟩
  refine wpAny_bind ?_; unfold Builtin.SmallTypes.ownedTupleHandOut
  refine wpAny_bind (wpAny_setField_rec e5 (by simp) fun h6 e6 s6 => ?_); replace s6 : Heap.SameBut e h5 h6 := s6; replace e6 : IsEnumOut h6 e it (c + 1) x hp.objs.size := e6
  refine wpAny_setField_rec e6 (by simp) fun h7 e7 s7 => ?_; replace s7 : Heap.SameBut e h6 h7 := s7; replace e7 : IsEnumOut h7 e it (c + 1) x hp.objs.size := e7
  have up : ∀ b o, b ≠ e → h4.get? b = some o → h7.get? b = some o := fun b o hb q => s7.extBut b o hb (s6.extBut b o hb (s5.extBut b o hb q))
  refine wpAny_bind (wpAny_letGo (wpAny_pure ⟨_, rfl, hQ h7 tk e7 (up _ _ (Nat.ne_of_gt el) T4) (by rw [s7.1, s6.1, s5.1, z4]) fun b o hb q => up b o hb (k4 b o hb q)⟩))
theorem pn_enum_item {e it : Addr} {c : Int} {old : Value} {Q : Option Value → Shared → Prop} (he : IsEnum s.heap e it c old)
    (hin : ∀ E' : Value → Shared → Prop, wpAny (model P w) A.in1 (Builtin.SmallTypes.nextOf (.ref it)) (fun x s1 => IsEnum s1.heap e it c old ∧ ∀ h' tk, IsEnumOut h' e it (c + 1) x s1.heap.objs.size → h'.get? s1.heap.objs.size = some { cls := .type "tuple", data := .seq #[.int c tk, x] } → h'.objs.size = s1.heap.objs.size + 1 →
      (∀ b o, b ≠ e → s1.heap.get? b = some o → h'.get? b = some o) → Q (some (.ref s1.heap.objs.size)) { s1 with heap := h', toks := tk + 1 }) E' s) :
    wpAny (model P w) A (pyNext (.ref e)) Q E s := by
  have hT : s.TypeIs (.ref e) "enumerate" := ⟨_, he, rfl⟩
  unfold pyNext
  exact wpAny_bind (wpAny_attempt (wpAny_callSpecial?_slot (name := Str.ofString "__next__") hT F.slot_enumerate_next (wpAny_call_entry F.slot_enumerate_next hT F.entry_enumerate_next
      (enum_item (Q := fun v s' => wpAny _ _ _ _ _ s') he (wpAny_mono (hin _) (fun x s1 ⟨q1, q2⟩ => ⟨q1, fun h' tk y1 y2 y3 y4 => wpAny_pure (q2 h' tk y1 y2 y3 y4)⟩) fun _ _ z => z)) (F.args_enumerate_next_1 _))))
end
end EZ

namespace EZ
open PySem PySem.Spec PyProof.Rows
section
variable {P : Program} {w : World} {A : Around} {E : Value → Shared → Prop} {s : Shared} {z TI TO i1 i2 : Addr} {fp1 fp2 : List Addr} {n1 n2 i : Nat} {P1 P2 : Nat → Value → Prop} {St1 St2 : Nat → Heap → Prop} {a1 a2 f0 : Value} {f : Bool}
/-- the zip, drawn from -/
theorem next_zip_item {Q : Value → Shared → Prop} (S : ZipSep2 z TI TO i1 i2 fp1 fp2) (D1 : Draws P w A.in1 i1 fp1 n1 P1 St1) (D2 : Draws P w A.in1 i2 fp2 n2 P2 St2)
    (hz : IsZ s.heap z TI TO f0 f) (hf : MarkOk f0) (hTI : IsTupOf2 s.heap TI (.ref i1) (.ref i2)) (hTO : IsTupOf2 s.heap TO a1 a2) (st1 : St1 i s.heap) (st2 : St2 i s.heap) (l1 : i < n1) (l2 : i < n2)
    (hQ : ∀ x1 x2 h' tk, ZOut z TI TO i1 i2 P1 P2 St1 St2 i s.heap x1 x2 h' → Q (.ref s.heap.objs.size) { s with heap := h', toks := tk }) : wpAny (model P w) A (Builtin.SmallTypes.nextOf (.ref z)) Q E s := by
  have hT : s.TypeIs (.ref z) "zip" := ⟨_, hz, rfl⟩
  unfold Builtin.SmallTypes.nextOf
  exact wpAny_bind (wpAny_callSpecial?_slot (name := Str.ofString "__next__") hT F.slot_zip_next (wpAny_call_entry F.slot_zip_next hT F.entry_zip_next
    (zip_item (Q := fun v s' => wpAny _ _ _ _ _ s') S D1 D2 hz hf hTI hTO st1 st2 l1 l2 fun x1 x2 h' tk o => wpAny_pure (hQ x1 x2 h' tk o)) (F.args_zip_next_1 _)))
theorem next_zip_end {Q : Value → Shared → Prop} (S : ZipSep2 z TI TO i1 i2 fp1 fp2) (D1 : Draws P w A.in1 i1 fp1 n1 P1 St1)
    (hz : IsZ s.heap z TI TO f0 f) (hf : MarkOk f0) (hTI : IsTupOf2 s.heap TI (.ref i1) (.ref i2)) (st1 : St1 n1 s.heap)
    (hE : ∀ h' e, (∀ c o, c ≠ z → c ≠ i1 → s.heap.get? c = some o → h'.get? c = some o) → (∃ o, h'.get? e = some o ∧ o.cls = .type "StopIteration") → E (.ref e) { s with heap := h' }) : wpAny (model P w) A (Builtin.SmallTypes.nextOf (.ref z)) Q E s := by
  have hT : s.TypeIs (.ref z) "zip" := ⟨_, hz, rfl⟩
  unfold Builtin.SmallTypes.nextOf
  exact wpAny_bind (wpAny_callSpecial?_slot (name := Str.ofString "__next__") hT F.slot_zip_next (wpAny_call_entry F.slot_zip_next hT F.entry_zip_next (zip_end S D1 hz hf hTI st1 hE) (F.args_zip_next_1 _)))
theorem pn_enum_end {e : Addr} {c : Int} {old : Value} {Q : Option Value → Shared → Prop} (S : ZipSep2 z TI TO i1 i2 fp1 fp2) (D1 : Draws P w A.in1.in1 i1 fp1 n1 P1 St1) (he : IsEnum s.heap e z c old)
    (hz : IsZ s.heap z TI TO f0 f) (hf : MarkOk f0) (hTI : IsTupOf2 s.heap TI (.ref i1) (.ref i2)) (st1 : St1 n1 s.heap)
    (hQ : ∀ h', (∀ c o, c ≠ z → c ≠ i1 → s.heap.get? c = some o → h'.get? c = some o) → Q none { s with heap := h' }) : wpAny (model P w) A (pyNext (.ref e)) Q E s := by
  have hT : s.TypeIs (.ref e) "enumerate" := ⟨_, he, rfl⟩
  unfold pyNext
  refine wpAny_bind (wpAny_attempt (wpAny_callSpecial?_slot (name := Str.ofString "__next__") hT F.slot_enumerate_next (wpAny_call_entry F.slot_enumerate_next hT F.entry_enumerate_next ?_ (F.args_enumerate_next_1 _))))
  show wpAny _ _ (field (.ref e) 2 >>= _) _ _ _; refine wpAny_bind (wpAny_field he rfl (x := .ref z) rfl ?_)
  refine wpAny_bind (next_zip_end S D1 hz hf hTI st1 fun h' x hk hx => ?_); obtain ⟨o, ho, hc⟩ := hx
  refine wpAny_bind (wpAny_isInstance (T := "StopIteration") (b := true) ⟨o, ho, hc⟩ isSubtype_stop ?_)
  exact wpAny_pure (hQ _ hk)
end
/-- the tuple at a, the list at b, as they stand at each turn, the items in new pairs -/
def Itez (K : PySem.W.Frag) (a b : Addr) : It :=
  ⟨fun i H => ∃ (xs ys : List V) (x y : V), SqT K H a xs ∧ SqL K H b ys ∧ xs[i]? = some x ∧ ys[i]? = some y,
    fun i H v H' => ∃ T U x y, v = .ref U ∧ H T = none ∧ upd H T (.tup [x, y]) U = none ∧ H' = upd (upd H T (.tup [x, y])) U (.tup [.int (i : Nat), .ref T]) ∧ (∀ xs, SqT K H a xs → xs[i]? = some x) ∧ ∀ ys, SqL K H b ys → ys[i]? = some y,
    fun i H => ∃ xs ys : List V, SqT K H a xs ∧ SqL K H b ys ∧ xs.length = i⟩
/-- the state of the five things -/
def ezS (e z TI TO i1 i2 a b : Addr) (i : Nat) (h : Heap) : Prop :=
  (∃ old, IsEnum h e z ((i : Nat) : Int) old) ∧ (∃ f0 f, MarkOk f0 ∧ IsZ h z TI TO f0 f) ∧ IsTupOf2 h TI (.ref i1) (.ref i2) ∧ (∃ b1 b2, IsTupOf2 h TO b1 b2) ∧ h.IsTupleIter i1 a i ∧ h.IsListIter i2 b i
structure Sep (e z TI TO i1 i2 a b : Addr) : Prop where
  ez : e ≠ z
  eI : e ≠ TI
  eO : e ≠ TO
  e1 : e ≠ i1
  e2 : e ≠ i2
  zI : z ≠ TI
  zO : z ≠ TO
  z1 : z ≠ i1
  z2 : z ≠ i2
  IO : TI ≠ TO
  I1 : TI ≠ i1
  I2 : TI ≠ i2
  O1 : TO ≠ i1
  O2 : TO ≠ i2
  d12 : i1 ≠ i2
  ea : e ≠ a
  za : z ≠ a
  Oa : TO ≠ a
  a1 : a ≠ i1
  a2 : i2 ≠ a
  eb : e ≠ b
  zb : z ≠ b
  Ob : TO ≠ b
  b1 : i1 ≠ b
  b2 : b ≠ i2
theorem turn_ez {P : Program} {w : World} {K : PySem.W.Frag} {elts : List Expr} {kk : Nat} {tpos : Pos} {a b e z TI TO i1 i2 : Addr} (D : Sep e z TI TO i1 i2 a b) :
    Turn P w K (.Tuple elts kk tpos) (Itez K a b) [e, z, TI, TO, i1, i2] e (ezS e z TI TO i1 i2 a b) where
  mem := by simp
  obj := fun i h st c hc => by
    obtain ⟨⟨old, he⟩, ⟨f0, f, _, hz⟩, hTI, ⟨b1, b2, hTO⟩, ⟨o1, e1, _, d1⟩, ⟨o2, e2, _, d2⟩⟩ := st
    have e' : c = e ∨ c = z ∨ c = TI ∨ c = TO ∨ c = i1 ∨ c = i2 := by simpa using hc
    rcases e' with q | q | q | q | q | q
    · rw [q]; exact ⟨_, he, fun v q => nomatch q⟩
    · rw [q]; exact ⟨_, hz, fun v q => nomatch q⟩
    · rw [q]; exact ⟨_, hTI, fun v q => nomatch q⟩
    · rw [q]; exact ⟨_, hTO, fun v q => nomatch q⟩
    · rw [q]; exact ⟨o1, e1, fun v q => by rw [d1] at q; cases q⟩
    · rw [q]; exact ⟨o2, e2, fun v q => by rw [d2] at q; cases q⟩
  keep := fun i h h' st k => by
    obtain ⟨⟨old, he⟩, ⟨f0, f, hf, hz⟩, hTI, ⟨b1, b2, hTO⟩, h1, h2⟩ := st
    exact ⟨⟨old, k e (by simp) _ he⟩, ⟨f0, f, hf, k z (by simp) _ hz⟩, k TI (by simp) _ hTI, ⟨b1, b2, k TO (by simp) _ hTO⟩, h1.at fun o q => k i1 (by simp) o q, h2.at fun o q => k i2 (by simp) o q⟩
  item := by
    intro X hP hw hK hc i pins s σ H E I hf st hg
    subst hP hw hK
    obtain ⟨⟨old, he⟩, ⟨f0, f, hf0, hz⟩, hTI, ⟨b1, b2, hTO⟩, h1, h2⟩ := st
    obtain ⟨xs, ys, x, y, hqx, hqy, hx, hy⟩ := hg
    obtain ⟨its, rv, p, _⟩ := I.tuple hqx
    obtain ⟨its2, rv2, p2, _⟩ := I.list hqy
    obtain ⟨u, hu, ru⟩ := rv.get hx
    obtain ⟨u2, hu2, ru2⟩ := rv2.get hy
    have hh2 : X.A.in1.in1.handled = none := by simp [I.ok.hd hc]
    have lt : ∀ c ∈ [e, z, TI, TO, i1, i2], c < s.heap.objs.size := fun c hcm => by
      have e' : c = e ∨ c = z ∨ c = TI ∨ c = TO ∨ c = i1 ∨ c = i2 := by simpa using hcm
      obtain ⟨o1, e1, _⟩ := id h1; obtain ⟨o2, e2, _⟩ := id h2
      rcases e' with q | q | q | q | q | q
      · rw [q]; exact Heap.lt_size he
      · rw [q]; exact Heap.lt_size hz
      · rw [q]; exact Heap.lt_size hTI
      · rw [q]; exact Heap.lt_size hTO
      · rw [q]; exact Heap.lt_size e1
      · rw [q]; exact Heap.lt_size e2
    have li1 : i < its.toArray.size := by rw [List.size_toArray]; exact (List.getElem?_eq_some_iff.mp hu).1
    have li2 : i < its2.toArray.size := by rw [List.size_toArray]; exact (List.getElem?_eq_some_iff.mp hu2).1
    have S : ZipSep2 z TI TO i1 i2 [i1, a] [i2, b] := ⟨D.zI.symm, D.zO.symm, D.IO, D.I1, by simp, by simp [D.z1, D.za], by simp [D.O1, D.Oa], D.I2, by simp, by simp [D.z2, D.zb], by simp [D.O2, D.Ob], by simp [D.d12, D.b1], by simp [D.d12.symm, D.a2]⟩
    refine pn_enum_item he (fun E' => next_zip_item S (Draws.tuple (A := X.A.in1.in1) hh2 i1 a D.a1 its.toArray) (Draws.list (A := X.A.in1.in1) hh2 i2 b D.b2 its2.toArray) hz hf0 hTI hTO ⟨h1, p⟩ ⟨h2, p2.isList⟩ li1 li2 fun x1 x2 h' tk o => ⟨o.k _ _ D.ez D.eO D.e1 D.e2 he, fun h'' tk2 ho hT hs hk => ?_⟩)
    obtain rfl : x1 = u := by
      have := o.p1
      rw [List.getElem?_toArray, hu] at this
      exact (Option.some.inj this).symm
    obtain rfl : x2 = u2 := by
      have := o.p2
      rw [List.getElem?_toArray, hu2] at this
      exact (Option.some.inj this).symm
    refine ⟨_, rfl, wpAny_letOwnedTupleGo_enum (s := { s with heap := h'', toks := tk2 + 1 }) ho fun h3 he3 sb => ?_⟩
    replace sb : Heap.SameBut e h'' h3 := sb
    have hN := o.sz
    have lN : s.heap.objs.size ≤ h'.objs.size := by rw [hN]; exact Nat.le_succ _
    have kA : ∀ c ob, c ∉ [e, z, TI, TO, i1, i2] → s.heap.get? c = some ob → h'.get? c = some ob := fun c ob hb q => o.k c ob (fun z => hb (by simp [z])) (fun z => hb (by simp [z])) (fun z => hb (by simp [z])) (fun z => hb (by simp [z])) q
    have I1 : Inv X pins σ (upd H s.heap.objs.size (.tup [x, y])) { s with heap := h', toks := tk } :=
      I.turnedNew (ch := [e, z, TI, TO, i1, i2]) kA hf (Nat.le_refl _) ⟨by show 2 ≤ sizeLine; decide, [x1, x2], .cons ru (.cons ru2 .nil), ⟨_, o.T, rfl, _, rfl⟩⟩
    have up : ∀ c ob, c ≠ e → h'.get? c = some ob → h3.get? c = some ob := fun c ob ne q => sb.extBut c ob ne (hk c ob ne q)
    have ne0 : ∀ c ∈ [e, z, TI, TO, i1, i2], c ≠ s.heap.objs.size := fun c hcm => Nat.ne_of_lt (lt c hcm)
    have ne1 : ∀ c ∈ [e, z, TI, TO, i1, i2], c ≠ h'.objs.size := fun c hcm => Nat.ne_of_lt (Nat.lt_of_lt_of_le (lt c hcm) lN)
    have T3 : h3.get? h'.objs.size = some { cls := .type "tuple", data := .seq #[.int ((i : Nat) : Int) tk2, .ref s.heap.objs.size] } := sb.extBut _ _ (ne1 e (by simp)).symm hT
    have hf1 : ∀ c ∈ [e, z, TI, TO, i1, i2], FpOk X pins (upd H s.heap.objs.size (.tup [x, y])) c := fun c hcm => by
      obtain ⟨g0, g1⟩ := hf c hcm
      exact ⟨by rw [upd_ne (ne0 c hcm)]; exact g0, g1⟩
    have I2 : Inv X pins σ (upd (upd H s.heap.objs.size (.tup [x, y])) h'.objs.size (.tup [.int (i : Nat), .ref s.heap.objs.size])) { s with heap := h3, toks := tk2 + 1 } :=
      I1.turnedNew (h' := h3) (t' := tk2 + 1) (ch := [e, z, TI, TO, i1, i2]) (fun c ob hb q => up c ob (fun z => hb (by simp [z])) q) hf1 (Nat.le_refl _) ⟨by show 2 ≤ sizeLine; decide, [.int ((i : Nat) : Int) tk2, .ref s.heap.objs.size], .cons ⟨_, rfl⟩ (.cons rfl .nil), ⟨_, T3, rfl, _, rfl⟩⟩
    refine ⟨.ref h'.objs.size, _, I2, rfl, ⟨s.heap.objs.size, h'.objs.size, x, y, rfl, I.hok.fresh (Nat.le_refl _), I1.hok.fresh (Nat.le_refl _), rfl, fun l hl => ?_, fun l hl => by rw [I.list_inj hl hqy]; exact hy⟩, ?_, fun c hcm => ?_⟩
    · rw [I.tuple_inj hl hqx]; exact hx
    · obtain ⟨f0', f', m', z'⟩ := o.zz
      obtain ⟨b1', b2', O'⟩ := o.oo
      have e1 : ((i + 1 : Nat) : Int) = (i : Int) + 1 := by omega
      refine ⟨⟨_, by rw [e1]; exact he3⟩, ⟨f0', f', m', up _ _ D.ez.symm z'⟩, up _ _ D.eI.symm (o.k _ _ D.zI.symm D.IO D.I1 D.I2 hTI), ⟨b1', b2', up _ _ D.eO.symm O'⟩, o.s1.1.at fun ob q => up _ _ D.e1.symm q, o.s2.1.at fun ob q => up _ _ D.e2.symm q⟩
    · rw [upd_ne (ne1 c hcm), upd_ne (ne0 c hcm)]
      exact (hf c hcm).1
  done := by
    intro X hP hw hK hc i pins s σ H E I hf st hg
    subst hP hw hK
    obtain ⟨⟨old, he⟩, ⟨f0, f, hf0, hz⟩, hTI, ⟨b1, b2, hTO⟩, h1, h2⟩ := st
    obtain ⟨xs, ys, hqx, hqy, hx⟩ := hg
    obtain ⟨its, rv, p, _⟩ := I.tuple hqx
    have hh2 : X.A.in1.in1.handled = none := by simp [I.ok.hd hc]
    have hl := rv.length
    have S : ZipSep2 z TI TO i1 i2 [i1, a] [i2, b] := ⟨D.zI.symm, D.zO.symm, D.IO, D.I1, by simp, by simp [D.z1, D.za], by simp [D.O1, D.Oa], D.I2, by simp, by simp [D.z2, D.zb], by simp [D.O2, D.Ob], by simp [D.d12, D.b1], by simp [D.d12.symm, D.a2]⟩
    have hi : i = its.toArray.size := by rw [List.size_toArray]; omega
    subst hi
    exact pn_enum_end S (Draws.tuple (A := X.A.in1.in1) hh2 i1 a D.a1 its.toArray) he hz hf0 hTI ⟨h1, p⟩ fun h' hk => ⟨rfl, I.turnedL (t' := s.toks) (ch := [e, z, TI, TO, i1, i2]) (fun c o hb q => hk c o (fun w => hb (by simp [w])) (fun w => hb (by simp [w])) q) hf⟩
  self := fun A i s Q E st h => let ⟨⟨_, he⟩, _⟩ := st; wpAny_pyIter_enum he h
end EZ

namespace EZ
open PySem PySem.Spec PyProof.Rows
set_option maxHeartbeats 4000000
abbrev enO (z : Addr) : Obj := { cls := .type "enumerate", data := .fields #[.none, .bool false, .ref z, rawInt 0, .none, .none] }
theorem meets_enum_z {z : Addr} {H : Heap → Prop} (hI : ∀ (P : Program) (w : World) (A : Around) (E : Value → Shared → Prop) (s : Shared) (Q : Value → Shared → Prop), H s.heap → Q (.ref z) s → wpAny (model P w) A (pyIter (.ref z)) Q E s) :
    Meets (Builtin.«enumerate.__new__» ⟨[.type "enumerate", .ref z], []⟩) (fun _ R s => H s.heap ∧ R (.ok (.ret (.ref s.heap.objs.size))) { s with heap := s.heap.push (enO z) }) :=
  .of_wp fun prog w A R s h => by
    obtain ⟨hp, g, d, tk, os⟩ := s; obtain ⟨h1, h⟩ := h; have hsub := sub_enumerate
    have q1 : ∀ {A' : Around} {E : Value → Shared → Prop} {Q : Value → Shared → Prop}, Q (.ref z) ⟨hp, g, d, tk, os⟩ → wpAny (model prog w) A' (pyIter (.ref z)) Q E ⟨hp, g, d, tk, os⟩ := fun q => hI prog w _ _ ⟨hp, g, d, tk, os⟩ _ h1 q
    wp_walk using q1
    refine wpAny_stack_any fun st => wpAny_pure ?_; split
    · rename_i c _ _ _ _ _; cases (c == Value.type "enumerate") <;> (wp_walk using q1; exact ⟨_, rfl, h⟩)
    · wp_walk using q1; exact ⟨_, rfl, h⟩
theorem call_enum_z {P : Program} {w : World} {A : Around} {E : Value → Shared → Prop} {s : Shared} {z TI TO : Addr} {f0 : Value} {Q : Value → Shared → Prop} (hz : IsZip s.heap z TI TO f0)
    (h : ∀ h', IsEnum h' s.heap.objs.size z 0 .none → (∀ b o, s.heap.get? b = some o → h'.get? b = some o) → Q (.ref s.heap.objs.size) { s with heap := h' }) : wpAny (model P w) A (call (.type "enumerate") [.ref z]) Q E s := by
  refine callType_new F.called_enumerate (by decide) (F.typeCall_enumerate_1 _) (F.newCall_enumerate_1 _) (fun obj => F.args_object_init_2 obj _) F.entry_enumerate_new (meets_enum_z (H := fun h => IsZip h z TI TO f0) fun _ _ _ _ _ _ x q => wpAny_pyIter_zip x q) ⟨hz, ?_⟩
  have he : IsEnum (s.heap.push (enO z)) s.heap.objs.size z 0 .none := Heap.get?_push_size _ rfl
  exact ⟨⟨_, he, rfl⟩, h _ he fun b o x => Heap.get?_push_of_some _ x⟩
theorem sep_mk {N a b e : Nat} (ha : a < N) (hb : b < N) (he : e = N + 5) : Sep e (N + 4) (N + 2) (N + 3) N (N + 1) a b := by
  have nn : ∀ {x y : Nat}, x ≠ y → (x : Addr) ≠ (y : Addr) := fun h => h
  exact ⟨nn (by omega), nn (by omega), nn (by omega), nn (by omega), nn (by omega), nn (by omega), nn (by omega), nn (by omega), nn (by omega), nn (by omega), nn (by omega), nn (by omega), nn (by omega), nn (by omega), nn (by omega), nn (by omega), nn (by omega), nn (by omega), nn (by omega), nn (by omega), nn (by omega), nn (by omega), nn (by omega), nn (by omega), nn (by omega)⟩
def iEz (K : PySem.W.Frag) (ta : TA) : TI := fun σ H R => ta σ H fun vs H1 => ∃ a b xs ys, vs = [.ref a, .ref b] ∧ SqT K H1 a xs ∧ SqL K H1 b ys ∧ R (Itez K a b) H1
theorem pi_ez {X : Cx} {e e2 : Expr} {ta : TA} {p p2 pos pos2 tpos : Pos} {elts : List Expr} {kk : Nat} (hg : Gl X "enumerate") (hm : X.mg "enumerate" = none) (hg2 : Gl X "zip") (hm2 : X.mg "zip" = none) (ha : PA X [e, e2] ta)
    (hs : starEach [e, e2] X.env = (false, eval e X.env) :: starEach [e2] X.env := by rfl) (hpl : (backTo pos2 (starEach [e2] X.env)).any (·.1) = false := by rfl) :
    PI X (.Tuple elts kk tpos) (.Call (.Name "enumerate" p) [.Call (.Name "zip" p2) [e, e2] [] pos2] [] pos) (iEz X.K ta) := by
  refine ⟨fun pins s σ H R I h => ?_⟩
  refine Call_ (ld_blt I hg hm boot_enumerate (PyProof.Rows.callWith_type1 (PyProof.Rows.args_cons ?_ rfl) rfl rfl))
  refine Call_ (ld_blt I hg2 hm2 PyProof.Rows.boot_zip (PyProof.Rows.callWith_type1 (thn (ha.run pos2 pins s σ H _ I h) fun us s1 ⟨vs, H1, I1, r1, q1⟩ => ?_) hs hpl))
  obtain ⟨a, b, xs, ys, ex, hqx, hqy, q⟩ := q1; subst ex
  obtain ⟨its, rv, p1, _⟩ := I1.tuple hqx; obtain ⟨its2, rv2, p3, _⟩ := I1.list hqy
  obtain ⟨u1, u2, rfl, c1, c2⟩ := vals2 r1; cases c1; cases c2
  have la : a < s1.heap.objs.size := by obtain ⟨_, q, _⟩ := p1; exact Heap.lt_size q
  have lb : b < s1.heap.objs.size := p3.lt
  refine zip_begins2 (begins_tuple a its.toArray) (begins_list b its2.toArray) p1 p3.isList fun h' hz hTI hTO g1 g2 hsz hk => PyProof.Rows.args_nil ?_
  refine call_enum_z (s := { s1 with heap := h' }) hz fun h2 he hk2 => wpAny_pyIter_enum he ?_
  have kk2 : ∀ c o, s1.heap.get? c = some o → h2.get? c = some o := fun c o x => hk2 c o (hk c o x)
  have I2 : Inv X pins σ H1 { s1 with heap := h2 } := I1.kept (t' := s1.toks) kk2
  have eN : (h'.objs.size : Nat) = s1.heap.objs.size + 5 := hsz
  refine ⟨h'.objs.size, [h'.objs.size, s1.heap.objs.size + 4, s1.heap.objs.size + 2, s1.heap.objs.size + 3, s1.heap.objs.size, s1.heap.objs.size + 1], _, _, H1, rfl, I2, turn_ez (a := a) (b := b) (sep_mk la lb eN),
    ⟨⟨.none, he⟩, ⟨.none, false, .inl rfl, hk2 _ _ hz⟩, hk2 _ _ hTI, ⟨_, _, hk2 _ _ hTO⟩, ⟨_, hk2 _ _ g1, rfl, rfl⟩, ⟨_, hk2 _ _ g2, rfl, rfl⟩⟩, fun c hc => ?_, q⟩
  have hle : s1.heap.objs.size ≤ c := by
    have hc' : c = h'.objs.size ∨ c = s1.heap.objs.size + 4 ∨ c = s1.heap.objs.size + 2 ∨ c = s1.heap.objs.size + 3 ∨ c = s1.heap.objs.size ∨ c = s1.heap.objs.size + 1 := by simpa using hc
    rcases hc' with e | e | e | e | e | e <;> rw [e]
    · rw [eN]; exact Nat.le_add_right _ _
    · exact Nat.le_add_right _ _
    · exact Nat.le_add_right _ _
    · exact Nat.le_add_right _ _
    · exact Nat.le_refl _
    · exact Nat.le_add_right _ _
  exact I1.fpOk hle (I1.hok.fresh hle)
theorem for_ez {K : PySem.W.Frag} {a b : Addr} {xs ys : List V} {g : TG} {tb : TS} {D : Ends} {σ : L2.St} {H : Hp} (hl : xs.length = ys.length) (Pv : Nat → L2.St → Hp → Prop) (h0 : Pv 0 σ H) (hq : ∀ i σ H, i ≤ xs.length → Pv i σ H → SqT K H a xs ∧ SqL K H b ys)
    (hs : ∀ i x y σ H T U, xs[i]? = some x → ys[i]? = some y → Pv i σ H → H T = none → upd H T (.tup [x, y]) U = none → g (.ref U) σ (upd (upd H T (.tup [x, y])) U (.tup [.int (i : Nat), .ref T])) fun σ2 H2 => tb { D with nx := Pv (i + 1), ct := Pv (i + 1), bk := D.nx } σ2 H2) (hd : ∀ σ H, Pv xs.length σ H → D.nx σ H) :
    ∃ W : Nat → Nat → L2.St → Hp → Prop, (∃ m, W 0 m σ H) ∧ ∀ i m σ H, W i m σ H →
      ((Itez K a b).stop i H ∧ D.nx σ H) ∨ ((Itez K a b).go i H ∧ ∃ N : L2.St → Hp → Prop, (∀ σ' H', N σ' H' → ∃ m', m' < m ∧ W (i + 1) m' σ' H') ∧ ∀ x H', (Itez K a b).yld i H x H' → g x σ H' fun σ2 H2 => tb { D with nx := N, ct := N, bk := D.nx } σ2 H2) := by
  refine ⟨fun i m σ H => m = xs.length - i ∧ i ≤ xs.length ∧ Pv i σ H, ⟨xs.length, by simp, Nat.zero_le _, h0⟩, ?_⟩
  rintro i m σ H ⟨rfl, hi, p⟩
  obtain ⟨q1, q2⟩ := hq i σ H hi p
  by_cases hlt : i < xs.length
  · refine .inr ⟨⟨xs, ys, xs[i], ys[i], q1, q2, by simp [hlt], by simp [hl ▸ hlt]⟩, Pv (i + 1), fun σ' H' p' => ⟨xs.length - (i + 1), by omega, rfl, hlt, p'⟩, fun v H' yy => ?_⟩
    obtain ⟨T, U, x, y, e1, nT, nU, e2, y1, y2⟩ := yy
    subst e1; subst e2
    exact hs i x y σ H T U (y1 xs q1) (y2 ys q2) p nT nU
  · have e : i = xs.length := by omega
    subst e
    exact .inl ⟨⟨xs, ys, q1, q2, rfl⟩, hd σ H p⟩
end EZ

/-! ### set(xs), xs a list of ints -/
section
open PySem.Spec PyProof.Rows
variable {P : Program} {w : World} {A : Around} {E : Value → Shared → Prop} {s : Shared}
/-- the empty set as it is laid -/
abbrev e0S (w : World) : Obj := { cls := .type "set", dict := none, data := .set #[] 0 (.fresh 0 0 (!w.params.followText "set-order")) }
abbrev e1S (w : World) (s : Shared) : Shared := { s with heap := s.heap.push (e0S w) }
abbrev OutS (w : World) (ns : List Int) (s : Shared) (h' : Heap) (c : Nat) : Prop := SetR w h' s.heap.objs.size (fun j => decide (j ∈ ns)) c ∧ c ≤ ns.length ∧ ∀ b o, s.heap.get? b = some o → h'.get? b = some o
set_option maxHeartbeats 3200000 in
theorem call_setL {l : Addr} {items : Array Value} (ns : List Int) {Q : Value → Shared → Prop} (hh : A.handled = none) (hl : s.heap.IsList l items) (hi : IntsAre items.toList ns) (hb : ns.length + 1 < scanBound)
    (fin : ∀ (h' : Heap) (tk c : Nat), OutS w ns s h' c → Q (.ref s.heap.objs.size) { s with heap := h', toks := tk }) : wpAny (model P w) A (call (.type "set") [.ref l]) Q E s := by
  have hz : items.size = ns.length := by rw [← IntsAre.length hi] <;> simp
  obtain ⟨c, tl, hmro⟩ := F.called_set.mro; have hmade := F.called_set.made; have hsub := F.called_set.sub
  refine wpAny_call (codeAny_of_tree ?_); show wpAny _ _ (callAny (.type "set") _) _ _ _
  refine wpAny_pure ⟨Code.quiet_builtin _ (by decide +kernel), codeAny_builtin F.entry_type_call ?_⟩; rw [Around.under_plain (weight_type_call_type "set" [.ref l] []) rfl]
  have h1 := F.called_set.notType; have h2 := F.called_set.canCreate; have hct := F.typeCall_set_1 (.ref l)
  repeat (any_goals (first | assumption | wp_step))
  refine codeAny_mono (code_set_led1 (.ref l) (E := E) (Q₁ := fun z s₁ => z = .ref s.heap.objs.size ∧ s₁ = e1S w s) ⟨rfl, rfl⟩) fun r s₁ hr => ?_
  match r, hr with
  | .error e, hr => exact hr
  | .ok .next, hr => exact hr.elim
  | .ok .brk, hr => exact hr.elim
  | .ok .cont, hr => exact hr.elim
  | .ok (.ret z), hr =>
    obtain ⟨rfl, rfl⟩ := hr
    have hS : (e1S w s).heap.get? s.heap.objs.size = some (e0S w) := Heap.get?_push_size _ rfl
    have hT : (e1S w s).TypeIs (.ref s.heap.objs.size) "set" := ⟨_, hS, rfl⟩
    have hli := F.called_set.init.lookup; have hbi := F.called_set.init.bind (.ref s.heap.objs.size)
    repeat (any_goals (first | assumption | wp_step))
    refine codeAny_mono (codeAny_call_builtin (R := wants (fun r s₂ => r = .none ∧ ∃ h' tk c, s₂ = { s with heap := h', toks := tk } ∧ OutS w ns s h' c) E) F.called_set.init.plain F.entry_set_init (check_set_init_1 hT ?_)) fun r₂ s₂ hr₂ => ?_
    · obtain ⟨⟨oc, od, oa, os⟩, hol, hcl, nl, hdl⟩ := hl
      obtain rfl : oc = _ := hcl; obtain rfl : oa = _ := hdl
      have hol' : (e1S w s).heap.get? l = some _ := Heap.get?_push_of_some _ hol
      have q1 := F.sub_list_set; have q2 := F.sub_list_frozenset; have q3 : (Value.type "list" == Value.type "dict") = false := by decide
      have hl1 : (e1S w s).heap.IsList l items := ⟨_, hol', rfl, nl, rfl⟩
      unfold Builtin.«set.__init__» noKeywords Builtin.Frozenset.updateFrom
      generalize hPI : pyIter = PI; wp_walk; subst hPI
      refine wpAny_pyIter_list hl1 ?_; refine wpAny_bind (wpAny_runValue ?_)
      have hlS : l < s.heap.objs.size := Heap.lt_size hol
      have hh3 : A.in1.in1.in1.handled = none := by simp [hh]
      have hz1 : (e1S w s).heap.objs.size = s.heap.objs.size + 1 := Heap.size_push ..
      have hnI : l ≠ (e1S w s).heap.objs.size := by rw [hz1]; exact Nat.ne_of_lt (Nat.lt_succ_of_lt hlS)
      have hnS : s.heap.objs.size ∉ [(e1S w s).heap.objs.size, l] := by rw [hz1]; simp only [List.mem_cons, List.not_mem_nil, or_false, not_or]; exact ⟨Nat.ne_of_lt (Nat.lt_succ_self _), Nat.ne_of_gt hlS⟩
      have hval : ∀ (i : Nat) (v : Value), items[i]? = some v → ∃ k t, ns[i]? = some k ∧ v = .int k t := fun i v hv => by
        obtain ⟨t, e⟩ := IntsAre.int_at hi i v (by simpa using hv)
        have hi' : i < ns.length := by rw [← hz]; exact (Array.getElem?_eq_some_iff.mp hv).1
        exact ⟨ns[i], t, List.getElem?_eq_getElem hi', by rw [e, List.getD_eq_getElem?_getD, List.getElem?_eq_getElem hi'] <;> rfl⟩
      have hget : ((e1S w s).heap.push { cls := .type "list_iterator", data := .fields #[.ref l, .int 0 0] }).get? s.heap.objs.size = some (e0S w) := Heap.get?_push_of_some _ hS
      refine set_update_ints ((Walks.list hh3 _ l hnI items).toS) s.heap.objs.size hnS ns hz hb hval (items.size - 0) 0 _ (by omega) (Nat.zero_le _) ⟨⟨_, Heap.get?_push_size _ rfl, rfl, rfl⟩, hl1.push _⟩ ⟨0, Nat.le_refl 0, setR_new_at hget⟩ fun s' c' hm hc' hS' => ?_
      obtain ⟨h', g2, d', tk', os'⟩ := s'
      obtain rfl : g2 = s.gens := hm.gens; obtain rfl : d' = s.drawn := hm.drawn; obtain rfl : os' = s.os := hm.os
      show wpAny _ _ _ _ _ _
      refine wpAny_pure ?_; show wpAny _ _ (ret Value.none) _ _ _
      rw [hz] at hc'
      refine wpAny_pure ⟨rfl, h', tk', c', rfl, hS', hc', fun b o e => ?_⟩
      have hb0 : b < s.heap.objs.size := Heap.lt_size e
      exact hm.heap b o (by rw [hz1]; simp only [List.mem_cons, List.not_mem_nil, or_false, not_or]; exact ⟨Nat.ne_of_lt hb0, Nat.ne_of_lt (Nat.lt_succ_of_lt hb0)⟩) (Heap.get?_push_of_some _ (Heap.get?_push_of_some _ e))
    · match r₂, hr₂ with
      | .error e, hr₂ => exact hr₂
      | .ok .next, hr₂ => exact hr₂.elim
      | .ok .brk, hr₂ => exact hr₂.elim
      | .ok .cont, hr₂ => exact hr₂.elim
      | .ok (.ret r), hr₂ =>
        obtain ⟨rfl, h', tk, c, rfl, hO⟩ := hr₂
        repeat (any_goals (first | assumption | wp_step))
        exact fin _ _ _ hO
end
section
variable {X : Cx}
def rSetL (K : PySem.W.Frag) (w : World) : List V → Hp → VK → Prop := fun xs H Q => ∃ (l : Addr) (ns : List Int), xs = [.ref l] ∧ SqL K H l (ns.map V.int) ∧ ns.length ≤ 1000 ∧ ∀ p c, H p = none → c ≤ ns.length → Q (.ref p) (upd H p (SetO w p (fun j => decide (j ∈ ns)) c))
theorem cr_setL (hc : X.calm = true) : CallR X (.type "set") (rSetL X.K X.w) := by
  intro pins s σ H xs us Q I r h
  obtain ⟨l, ns, rfl, hl, hn, q⟩ := h
  obtain ⟨its, rv, pl, _⟩ := I.list hl
  rw [Vals.ref1 r]
  refine call_setL ns (I.ok.hd hc) pl.isList (by simpa using ints_of_vals rv) (by unfold scanBound; omega) fun h' tk c ⟨R, hc', k⟩ => ?_
  exact ⟨.ref s.heap.objs.size, _, I.laid (t' := tk) k (Nat.le_refl _) (setO_new R), rfl, q _ c (I.hok.fresh (Nat.le_refl _)) hc'⟩
end

/-! ### zip(a tuple, a list) -/
namespace EZ
open PySem PySem.Spec PyProof.Rows
section
variable {P : Program} {w : World} {A : Around} {E : Value → Shared → Prop} {s : Shared} {z TI TO i1 i2 : Addr} {fp1 fp2 : List Addr} {n1 n2 i : Nat} {P1 P2 : Nat → Value → Prop} {St1 St2 : Nat → Heap → Prop} {a1 a2 f0 : Value} {f : Bool}
theorem pn_zip_item {Q : Option Value → Shared → Prop} (S : ZipSep2 z TI TO i1 i2 fp1 fp2) (D1 : Draws P w A.in1 i1 fp1 n1 P1 St1) (D2 : Draws P w A.in1 i2 fp2 n2 P2 St2)
    (hz : IsZ s.heap z TI TO f0 f) (hf : MarkOk f0) (hTI : IsTupOf2 s.heap TI (.ref i1) (.ref i2)) (hTO : IsTupOf2 s.heap TO a1 a2) (st1 : St1 i s.heap) (st2 : St2 i s.heap) (l1 : i < n1) (l2 : i < n2)
    (hQ : ∀ x1 x2 h' tk, ZOut z TI TO i1 i2 P1 P2 St1 St2 i s.heap x1 x2 h' → Q (some (.ref s.heap.objs.size)) { s with heap := h', toks := tk }) : wpAny (model P w) A (pyNext (.ref z)) Q E s := by
  have hT : s.TypeIs (.ref z) "zip" := ⟨_, hz, rfl⟩
  unfold pyNext
  exact wpAny_bind (wpAny_attempt (wpAny_callSpecial?_slot (name := Str.ofString "__next__") hT F.slot_zip_next (wpAny_call_entry F.slot_zip_next hT F.entry_zip_next
    (zip_item (Q := fun v s' => wpAny _ _ _ _ _ s') S D1 D2 hz hf hTI hTO st1 st2 l1 l2 fun x1 x2 h' tk o => wpAny_pure (hQ x1 x2 h' tk o)) (F.args_zip_next_1 _))))
theorem pn_zip_end {Q : Option Value → Shared → Prop} (S : ZipSep2 z TI TO i1 i2 fp1 fp2) (D1 : Draws P w A.in1 i1 fp1 n1 P1 St1)
    (hz : IsZ s.heap z TI TO f0 f) (hf : MarkOk f0) (hTI : IsTupOf2 s.heap TI (.ref i1) (.ref i2)) (st1 : St1 n1 s.heap)
    (hQ : ∀ h', (∀ c o, c ≠ z → c ≠ i1 → s.heap.get? c = some o → h'.get? c = some o) → Q none { s with heap := h' }) : wpAny (model P w) A (pyNext (.ref z)) Q E s := by
  have hT : s.TypeIs (.ref z) "zip" := ⟨_, hz, rfl⟩
  unfold pyNext
  refine wpAny_bind (wpAny_attempt (wpAny_callSpecial?_slot (name := Str.ofString "__next__") hT F.slot_zip_next (wpAny_call_entry F.slot_zip_next hT F.entry_zip_next
    (zip_end S D1 hz hf hTI st1 fun h' x hk hx => ?_) (F.args_zip_next_1 _))))
  obtain ⟨o, ho, hc⟩ := hx
  refine wpAny_bind (wpAny_isInstance (T := "StopIteration") (b := true) ⟨o, ho, hc⟩ isSubtype_stop ?_)
  exact wpAny_pure (hQ _ hk)
theorem go_zip_any {elts : List Expr} {x1} {pos : Pos} {T : Addr} {Q : Unit → Shared → Prop} (hz : IsZ s.heap z TI TO f0 f) (hf : MarkOk f0)
    (hQ : ∀ h' f0', MarkOk f0' → IsZ h' z TI TO f0' f → Heap.SameBut z s.heap h' → Q () { s with heap := h' }) :
    wpAny (model P w) A (letOwnedTupleGo (.Tuple elts x1 pos) (.ref z) (.ref T)) Q E s := by
  unfold letOwnedTupleGo
  refine wpAny_bind (wpAny_load hz ?_)
  show wpAny _ _ (if (["enumerate", "zip", "dict_itemiterator", "dict_reverseitemiterator", "odict_iterator", "itertools.zip_longest", "itertools.pairwise"].contains "zip" &&
      (#[f0, .bool f, .bool false, .ref TI, .ref TO] : Array Value)[0]? == some (rawInt T)) = true then _ else _) Q E s
  split
  · refine wpAny_bind (wpAny_rule ?_)
    show wpAny _ _ (setField (.ref z) 0 .none) Q E s
    exact wpAny_setField_rec hz (by simp) fun h' hz' hs' => hQ h' .none (.inl rfl) hz' hs'
  · exact wpAny_pure (hQ s.heap f0 hf hz (Heap.SameBut.refl _ _))
theorem iter_zip_any {Q : Value → Shared → Prop} (hz : IsZ s.heap z TI TO f0 f) (h : Q (.ref z) s) : wpAny (model P w) A (pyIter (.ref z)) Q E s := by
  have hT : s.TypeIs (.ref z) "zip" := ⟨_, hz, rfl⟩
  refine wpAny_pyIter_slot hT F.slot_zip_iter (wpAny_call_entry F.slot_zip_iter hT F.entry_zip_iter ?_ (F.args_zip_iter_1 _))
  show wpAny _ _ (ret (.ref z)) _ _ s
  exact wpAny_pure ⟨_, rfl, "zip", _, hT, F.slot_zip_next.lookup, h⟩
end
def Itzl (K : PySem.W.Frag) (a b : Addr) : It :=
  ⟨fun i H => ∃ (xs ys : List V) (x y : V), SqT K H a xs ∧ SqL K H b ys ∧ xs[i]? = some x ∧ ys[i]? = some y,
    fun i H v H' => ∃ T x y, v = .ref T ∧ H T = none ∧ H' = upd H T (.tup [x, y]) ∧ (∀ xs, SqT K H a xs → xs[i]? = some x) ∧ ∀ ys, SqL K H b ys → ys[i]? = some y,
    fun i H => ∃ xs ys : List V, SqT K H a xs ∧ SqL K H b ys ∧ xs.length = i⟩
def zlS (z TI TO i1 i2 a b : Addr) (i : Nat) (h : Heap) : Prop :=
  (∃ f0 f, MarkOk f0 ∧ IsZ h z TI TO f0 f) ∧ IsTupOf2 h TI (.ref i1) (.ref i2) ∧ (∃ b1 b2, IsTupOf2 h TO b1 b2) ∧ h.IsTupleIter i1 a i ∧ h.IsListIter i2 b i
theorem turn_zl {P : Program} {w : World} {K : PySem.W.Frag} {elts : List Expr} {kk : Nat} {tpos : Pos} {a b e z TI TO i1 i2 : Addr} (D : Sep e z TI TO i1 i2 a b) :
    Turn P w K (.Tuple elts kk tpos) (Itzl K a b) [z, TI, TO, i1, i2] z (zlS z TI TO i1 i2 a b) where
  mem := by simp
  obj := fun i h st c hc => by
    obtain ⟨⟨f0, f, _, hz⟩, hTI, ⟨b1, b2, hTO⟩, ⟨o1, e1, _, d1⟩, ⟨o2, e2, _, d2⟩⟩ := st
    have e' : c = z ∨ c = TI ∨ c = TO ∨ c = i1 ∨ c = i2 := by simpa using hc
    rcases e' with q | q | q | q | q
    · rw [q]; exact ⟨_, hz, fun v q => nomatch q⟩
    · rw [q]; exact ⟨_, hTI, fun v q => nomatch q⟩
    · rw [q]; exact ⟨_, hTO, fun v q => nomatch q⟩
    · rw [q]; exact ⟨o1, e1, fun v q => by rw [d1] at q; cases q⟩
    · rw [q]; exact ⟨o2, e2, fun v q => by rw [d2] at q; cases q⟩
  keep := fun i h h' st k => by
    obtain ⟨⟨f0, f, hf, hz⟩, hTI, ⟨b1, b2, hTO⟩, h1, h2⟩ := st
    exact ⟨⟨f0, f, hf, k z (by simp) _ hz⟩, k TI (by simp) _ hTI, ⟨b1, b2, k TO (by simp) _ hTO⟩, h1.at fun o q => k i1 (by simp) o q, h2.at fun o q => k i2 (by simp) o q⟩
  item := by
    intro X hP hw hK hc i pins s σ H E I hf st hg
    subst hP hw hK
    obtain ⟨⟨f0, f, hf0, hz⟩, hTI, ⟨b1, b2, hTO⟩, h1, h2⟩ := st
    obtain ⟨xs, ys, x, y, hqx, hqy, hx, hy⟩ := hg
    obtain ⟨its, rv, p, _⟩ := I.tuple hqx
    obtain ⟨its2, rv2, p2, _⟩ := I.list hqy
    obtain ⟨u, hu, ru⟩ := rv.get hx
    obtain ⟨u2, hu2, ru2⟩ := rv2.get hy
    have hh2 : X.A.in1.handled = none := by simp [I.ok.hd hc]
    have lt : ∀ c ∈ [z, TI, TO, i1, i2], c < s.heap.objs.size := fun c hcm => by
      have e' : c = z ∨ c = TI ∨ c = TO ∨ c = i1 ∨ c = i2 := by simpa using hcm
      obtain ⟨o1, e1, _⟩ := id h1; obtain ⟨o2, e2, _⟩ := id h2
      rcases e' with q | q | q | q | q
      · rw [q]; exact Heap.lt_size hz
      · rw [q]; exact Heap.lt_size hTI
      · rw [q]; exact Heap.lt_size hTO
      · rw [q]; exact Heap.lt_size e1
      · rw [q]; exact Heap.lt_size e2
    have li1 : i < its.toArray.size := by rw [List.size_toArray]; exact (List.getElem?_eq_some_iff.mp hu).1
    have li2 : i < its2.toArray.size := by rw [List.size_toArray]; exact (List.getElem?_eq_some_iff.mp hu2).1
    have S : ZipSep2 z TI TO i1 i2 [i1, a] [i2, b] := ⟨D.zI.symm, D.zO.symm, D.IO, D.I1, by simp, by simp [D.z1, D.za], by simp [D.O1, D.Oa], D.I2, by simp, by simp [D.z2, D.zb], by simp [D.O2, D.Ob], by simp [D.d12, D.b1], by simp [D.d12.symm, D.a2]⟩
    refine pn_zip_item S (Draws.tuple (A := X.A.in1) hh2 i1 a D.a1 its.toArray) (Draws.list (A := X.A.in1) hh2 i2 b D.b2 its2.toArray) hz hf0 hTI hTO ⟨h1, p⟩ ⟨h2, p2.isList⟩ li1 li2 fun x1 x2 h' tk o => ?_
    obtain rfl : x1 = u := by
      have := o.p1
      rw [List.getElem?_toArray, hu] at this
      exact (Option.some.inj this).symm
    obtain rfl : x2 = u2 := by
      have := o.p2
      rw [List.getElem?_toArray, hu2] at this
      exact (Option.some.inj this).symm
    obtain ⟨g0, g, gm, gz⟩ := o.zz
    refine ⟨_, rfl, go_zip_any (s := { s with heap := h', toks := tk }) gz gm fun h3 k0 km kz sb => ?_⟩
    replace sb : Heap.SameBut z h' h3 := sb
    have hN := o.sz
    have ne0 : ∀ c ∈ [z, TI, TO, i1, i2], c ≠ s.heap.objs.size := fun c hcm => Nat.ne_of_lt (lt c hcm)
    have up : ∀ c ob, c ≠ z → h'.get? c = some ob → h3.get? c = some ob := fun c ob ne q => sb.extBut c ob ne q
    have I1 : Inv X pins σ (upd H s.heap.objs.size (.tup [x, y])) { s with heap := h3, toks := tk } :=
      I.turnedNew (ch := [z, TI, TO, i1, i2]) (fun c ob hb q => up c ob (fun z => hb (by simp [z])) (o.k c ob (fun z => hb (by simp [z])) (fun z => hb (by simp [z])) (fun z => hb (by simp [z])) (fun z => hb (by simp [z])) q)) hf (Nat.le_refl _) ⟨by show 2 ≤ sizeLine; decide, [x1, x2], .cons ru (.cons ru2 .nil), ⟨_, up _ _ (ne0 z (by simp)).symm o.T, rfl, _, rfl⟩⟩
    refine ⟨.ref s.heap.objs.size, _, I1, rfl, ⟨s.heap.objs.size, x, y, rfl, I.hok.fresh (Nat.le_refl _), rfl, fun l hl => ?_, fun l hl => by rw [I.list_inj hl hqy]; exact hy⟩, ?_, fun c hcm => ?_⟩
    · rw [I.tuple_inj hl hqx]; exact hx
    · obtain ⟨b1', b2', O'⟩ := o.oo
      exact ⟨⟨k0, g, km, kz⟩, up _ _ D.zI.symm (o.k _ _ D.zI.symm D.IO D.I1 D.I2 hTI), ⟨b1', b2', up _ _ D.zO.symm O'⟩, o.s1.1.at fun ob q => up _ _ D.z1.symm q, o.s2.1.at fun ob q => up _ _ D.z2.symm q⟩
    · rw [upd_ne (ne0 c hcm)]
      exact (hf c hcm).1
  done := by
    intro X hP hw hK hc i pins s σ H E I hf st hg
    subst hP hw hK
    obtain ⟨⟨f0, f, hf0, hz⟩, hTI, ⟨b1, b2, hTO⟩, h1, h2⟩ := st
    obtain ⟨xs, ys, hqx, hqy, hx⟩ := hg
    obtain ⟨its, rv, p, _⟩ := I.tuple hqx
    have hh2 : X.A.in1.handled = none := by simp [I.ok.hd hc]
    have hl := rv.length
    have S : ZipSep2 z TI TO i1 i2 [i1, a] [i2, b] := ⟨D.zI.symm, D.zO.symm, D.IO, D.I1, by simp, by simp [D.z1, D.za], by simp [D.O1, D.Oa], D.I2, by simp, by simp [D.z2, D.zb], by simp [D.O2, D.Ob], by simp [D.d12, D.b1], by simp [D.d12.symm, D.a2]⟩
    have hi : i = its.toArray.size := by rw [List.size_toArray]; omega
    subst hi
    exact pn_zip_end S (Draws.tuple (A := X.A.in1) hh2 i1 a D.a1 its.toArray) hz hf0 hTI ⟨h1, p⟩ fun h' hk => ⟨rfl, I.turnedL (t' := s.toks) (ch := [z, TI, TO, i1, i2]) (fun c o hb q => hk c o (fun w => hb (by simp [w])) (fun w => hb (by simp [w])) q) hf⟩
  self := fun A i s Q E st h => let ⟨⟨_, _, _, hz⟩, _⟩ := st; iter_zip_any hz h
def iZl (K : PySem.W.Frag) (ta : TA) : TI := fun σ H R => ta σ H fun vs H1 => ∃ a b xs ys, vs = [.ref a, .ref b] ∧ SqT K H1 a xs ∧ SqL K H1 b ys ∧ R (Itzl K a b) H1
theorem pi_zl {X : Cx} {e e2 : Expr} {ta : TA} {p2 pos2 tpos : Pos} {elts : List Expr} {kk : Nat} (hg2 : Gl X "zip") (hm2 : X.mg "zip" = none) (ha : PA X [e, e2] ta)
    (hs : starEach [e, e2] X.env = (false, eval e X.env) :: starEach [e2] X.env := by rfl) (hpl : (backTo pos2 (starEach [e2] X.env)).any (·.1) = false := by rfl) :
    PI X (.Tuple elts kk tpos) (.Call (.Name "zip" p2) [e, e2] [] pos2) (iZl X.K ta) := by
  refine ⟨fun pins s σ H R I h => ?_⟩
  refine Call_ (ld_blt I hg2 hm2 PyProof.Rows.boot_zip (PyProof.Rows.callWith_type1 (thn (ha.run pos2 pins s σ H _ I h) fun us s1 ⟨vs, H1, I1, r1, q1⟩ => ?_) hs hpl))
  obtain ⟨a, b, xs, ys, ex, hqx, hqy, q⟩ := q1; subst ex
  obtain ⟨its, rv, p1, _⟩ := I1.tuple hqx; obtain ⟨its2, rv2, p3, _⟩ := I1.list hqy
  obtain ⟨u1, u2, rfl, c1, c2⟩ := vals2 r1; cases c1; cases c2
  have la : a < s1.heap.objs.size := by obtain ⟨_, q, _⟩ := p1; exact Heap.lt_size q
  have lb : b < s1.heap.objs.size := p3.lt
  refine zip_begins2 (begins_tuple a its.toArray) (begins_list b its2.toArray) p1 p3.isList fun h' hz hTI hTO g1 g2 hsz hk => ?_
  refine iter_zip_any (s := { s1 with heap := h' }) hz ?_
  have I2 : Inv X pins σ H1 { s1 with heap := h' } := I1.kept (t' := s1.toks) hk
  have eN : (h'.objs.size : Nat) = s1.heap.objs.size + 5 := hsz
  refine ⟨s1.heap.objs.size + 4, [s1.heap.objs.size + 4, s1.heap.objs.size + 2, s1.heap.objs.size + 3, s1.heap.objs.size, s1.heap.objs.size + 1], _, _, H1, rfl, I2, turn_zl (a := a) (b := b) (sep_mk la lb eN),
    ⟨⟨.none, false, .inl rfl, hz⟩, hTI, ⟨_, _, hTO⟩, ⟨_, g1, rfl, rfl⟩, ⟨_, g2, rfl, rfl⟩⟩, fun c hc => ?_, q⟩
  have hle : s1.heap.objs.size ≤ c := by
    have hc' : c = s1.heap.objs.size + 4 ∨ c = s1.heap.objs.size + 2 ∨ c = s1.heap.objs.size + 3 ∨ c = s1.heap.objs.size ∨ c = s1.heap.objs.size + 1 := by simpa using hc
    rcases hc' with e | e | e | e | e <;> rw [e]
    · exact Nat.le_add_right _ _
    · exact Nat.le_add_right _ _
    · exact Nat.le_add_right _ _
    · exact Nat.le_refl _
    · exact Nat.le_add_right _ _
  exact I1.fpOk hle (I1.hok.fresh hle)
theorem walk_zl {K : PySem.W.Frag} {a b : Addr} {xs ys : List V} (hl : xs.length = ys.length) : Walk (Itzl K a b) xs.length (fun H => SqT K H a xs ∧ SqL K H b ys) (fun i H v H' => ∃ T x y, v = .ref T ∧ H T = none ∧ H' = upd H T (.tup [x, y]) ∧ xs[i]? = some x ∧ ys[i]? = some y) :=
  ⟨fun i _ hi q => ⟨xs, ys, xs[i], ys[i]'(by omega), q.1, q.2, by simp [hi], by simp [hl ▸ hi]⟩, fun _ q => ⟨xs, ys, q.1, q.2, rfl⟩, fun i H v H' hi q ⟨T, x, y, e1, n, e2, y1, y2⟩ => ⟨T, x, y, e1, n, e2, y1 xs q.1, y2 ys q.2⟩⟩
end EZ

/-! ### the draws: _law_start, _law_take -/
def sL (g : Addr) (d s2 s3 s4 s5 s6 : Int) : List V := [.ref g, .int d, .int s2, .int s3, .int s4, .int s5, .int s6, .int 0, .int 0, .int 0, .int 0]
def StAt (H : Hp) (st g : Addr) : Prop := ∃ (gs : List Int) (d s2 s3 s4 s5 s6 : Int), H st = some (.lst (sL g d s2 s3 s4 s5 s6)) ∧ H g = some (.lst (gs.map V.int))
def Fr2 (st g : Addr) (H H' : Hp) : Prop := ∀ b o, H b = some o → b ≠ st → b ≠ g → H' b = some o
theorem StAt.ne {H : Hp} {st g : Addr} (h : StAt H st g) : st ≠ g := by
  obtain ⟨gs, d, s2, s3, s4, s5, s6, h1, h2⟩ := h
  refine ne_of h1 h2 fun e => ?_
  injection e with e
  cases gs with
  | nil => exact nomatch e
  | cons x r => injection e with e _; exact nomatch e
theorem fr2_refl {st g : Addr} {H : Hp} : Fr2 st g H H := fun _ _ e _ _ => e
theorem fr2_trans {st g : Addr} {H H1 H2 : Hp} (x : Fr2 st g H H1) (y : Fr2 st g H1 H2) : Fr2 st g H H2 := fun b o e n1 n2 => y b o (x b o e n1 n2) n1 n2
theorem fr2_st {st g : Addr} {H H1 : Hp} {o : HO} (x : Fr2 st g H H1) : Fr2 st g H (upd H1 st o) := fun b u e n1 n2 => by
  rw [upd_ne n1]; exact x b u e n1 n2
theorem fr2_g {st g : Addr} {H H1 : Hp} {o : HO} (x : Fr2 st g H H1) : Fr2 st g H (upd H1 g o) := fun b u e n1 n2 => by
  rw [upd_ne n2]; exact x b u e n1 n2
theorem fr2_new {st g p : Addr} {H H1 : Hp} {o : HO} (x : Fr2 st g H H1) (n : H1 p = none) : Fr2 st g H (upd H1 p o) := fun b u e n1 n2 => by
  rw [upd_ne (ne_of_none (x b u e n1 n2) n)]; exact x b u e n1 n2
theorem st_new {st g p : Addr} {H : Hp} {o : HO} (x : StAt H st g) (n : H p = none) : StAt (upd H p o) st g := by
  obtain ⟨gs, d, s2, s3, s4, s5, s6, h1, h2⟩ := x
  exact ⟨gs, d, s2, s3, s4, s5, s6, by rw [upd_ne (ne_of_none h1 n)]; exact h1, by rw [upd_ne (ne_of_none h2 n)]; exact h2⟩
theorem st_same {st g : Addr} {H H1 : Hp} (x : StAt H st g) (s : Same H H1) : StAt H1 st g := by
  obtain ⟨gs, d, s2, s3, s4, s5, s6, h1, h2⟩ := x
  exact ⟨gs, d, s2, s3, s4, s5, s6, s _ _ h1, s _ _ h2⟩
theorem fr2_same {st g : Addr} {H H1 : Hp} (s : Same H H1) : Fr2 st g H H1 := fun b o e _ _ => s b o e
/-- what was there ahead of the state -/
theorem same_fr2 {st g : Addr} {H0 H H1 : Hp} (s : Same H0 H) (x : Fr2 st g H H1) (n1 : H0 st = none) (n2 : H0 g = none) : Same H0 H1 := fun b o e => x b o (s b o e) (ne_of_none e n1) (ne_of_none e n2)
def spStart (K : PySem.W.Frag) : Sp := fun vs H Q _ => ∃ (sa : Addr) (ns : List Int), vs = [.ref sa] ∧ SqL K H sa (ns.map V.int) ∧ ns.length ≤ 63 ∧ ∀ (st g : Addr) (H' : Hp), H st = none → H g = none → StAt H' st g → Same H H' → Q (.ref st) H'
def spTake : Sp := fun vs H Q _ => ∃ (st g : Addr) (m : Int), vs = [.ref st, .int m] ∧ StAt H st g ∧ 0 < m ∧ m < 2 ^ 62 ∧ ∀ (v : Int) (H' : Hp), 0 ≤ v → v < m → StAt H' st g → Fr2 st g H H' → Q (.int v) H'
section
variable {P : Program} {w : World} {K : PySem.W.Frag} {mg : Str → Option Value} {base : Heap} {a : Ad}
theorem ok_law_take (T : Txt w K mg a) : FnOk P w K mg base CX0 1 a.f_law_take a.d_law_take ["state", "many"] spTake := by
  refine T.F__law_take.ok sc_law_take (fun vs H Q E h => ?_) (fun cdv A outer s H vs Q E hr h => ?_)
  · obtain ⟨_, _, _, rfl, _⟩ := h; rfl
  · obtain ⟨st, g, m, rfl, hSt, hm, hm2, q⟩ := h
    have hdv : ∀ i, CDivW i m := fun i => wide_div (b := 62) hm (by omega) (by decide) (by decide)
    have nsg := hSt.ne
    refine ⟨_, (C8.pss_cut (ps_if (PW.pt (pw_and (pt_cmpR op_eq (pe_ix ix_list (pv 0) pe_int (fun _ _ => rfl)) pe_int (nomark _)) (pw_and1 (pt_cmpR op_gt (pe_callB call_len_seq (by rfl) T.b_len (by decide +kernel) (pa_cons (pe_ix ix_list (pv 0) pe_int (fun _ _ => rfl)) pa_nil)) pe_int (nomark _))))) (pss_one (ps_asg (pe_bm PySem.F.plainAttrs_list PySem.F.slot_list_pop PySem.F.type_list_pop mt_popAt (pe_ix ix_list (pv 0) pe_int (fun _ _ => rfl)) (pa_cons pe_int pa_nil)) (pg_sub (pv 0) pe_int set_list))) pss_nil)
      (pss_cons (ps_if (pt_cmpR op_gt (pe_ix ix_list (pv 0) pe_int (fun _ _ => rfl)) pe_int (nomark _)) (pss_cons (ps_set (i := 2) sc_law_take.nd rfl (Or.inl rfl) (pe_op op_mod (pe_callTy call_int1 (by rfl) T.b_int (by decide +kernel) (pa_cons (pe_ix ix_list (pv 0) pe_int (fun _ _ => rfl)) pa_nil)) (pv 1)))
      (pss_cons (ps_asg (pe_op op_fdivW (pe_ix ix_list (pv 0) pe_int (fun _ _ => rfl)) (pv 1)) (pg_sub (pv 0) pe_int set_list))
      (pss_one (ps_ret (pv 2))))) pss_nil)
      (pss_cons (ps_asg (pe_op op_mod (pe_callTy call_int1 (by rfl) T.b_int (by decide +kernel) (pa_cons (pe_op op_mul (pe_ix ix_list (pv 0) pe_int (fun _ _ => rfl)) pe_int) pa_nil)) pe_int) (pg_sub (pv 0) pe_int set_list))
      (pss_cons (ps_asg (pe_op op_add (pe_ix ix_list (pv 0) pe_int (fun _ _ => rfl)) pe_int) (pg_sub (pv 0) pe_int set_list))
      (pss_cons (ps_set (i := 3) sc_law_take.nd rfl (Or.inl rfl) (pe_op op_mod (pe_callTy call_int1 (by rfl) T.b_int (by decide +kernel) (pa_cons (pe_op op_add (pe_op op_mul (pe_ix ix_list (pv 0) pe_int (fun _ _ => rfl)) pe_int) (pe_op op_mul (pe_ix ix_list (pv 0) pe_int (fun _ _ => rfl)) pe_int)) pa_nil)) pe_int))
      (pss_one (ps_ret (pe_op op_mod (pe_callTy call_int1 (by rfl) T.b_int (by decide +kernel) (pa_cons (pv 3) pa_nil)) (pv 1))))))))), ?_⟩
    obtain ⟨gs, d, s2, s3, s4, s5, s6, h1, h2⟩ := hSt
    refine ⟨fun σ H1 => σ = [some (.ref st), some (.int m), none, none] ∧ ∃ (gs : List Int) (d s2 s3 s4 s5 s6 : Int), H1 st = some (.lst (sL g d s2 s3 s4 s5 s6)) ∧ H1 g = some (.lst (gs.map V.int)) ∧ Fr2 st g H H1, ?_, ?_⟩
    · refine ⟨_, rfl, _, _, _, _, rfl, rfl, SqL.of h1, rfl, rfl, _, rfl, ite3 (fun e1 => ?_) (fun e1 => ?_)⟩
      · refine ⟨_, rfl, _, _, _, _, rfl, rfl, SqL.of h1, rfl, _, _, rfl, .inl (SqL.of h2), _, _, rfl, rfl, _, rfl, ite3 (fun e2 => ?_) (fun e2 => ?_)⟩
        · cases gs with
          | nil => simp at e2
          | cons x r =>
            refine ⟨_, rfl, _, _, _, _, rfl, rfl, SqL.of h1, rfl, .inl ⟨rfl, _, SqL.of h2⟩, g, _, 0, 0, V.int x, rfl, rfl, h2, by decide, by decide, by simp [seqIndex?], by simp, ?_⟩
            have h1' : upd H g (.lst (List.eraseIdx (List.map V.int (x :: r)) 0)) st = some (.lst (sL g d s2 s3 s4 s5 s6)) := by rw [upd_ne nsg]; exact h1
            refine ⟨_, rfl, _, _, _, _, rfl, rfl, h1', rfl, ?_⟩
            exact ⟨rfl, r, x, s2, s3, s4, s5, s6, upd_same, by rw [upd_ne nsg.symm, upd_same]; rfl, fr2_st (fr2_g fr2_refl)⟩
        · exact ⟨rfl, gs, d, s2, s3, s4, s5, s6, h1, h2, fr2_refl⟩
      · exact iteF ⟨rfl, gs, d, s2, s3, s4, s5, s6, h1, h2, fr2_refl⟩
    clear h1 h2 d s2 s3 s4 s5 s6 gs
    rintro σ H1 ⟨rfl, gs, d, s2, s3, s4, s5, s6, h1, h2, f⟩
    refine ⟨_, rfl, _, _, _, _, rfl, rfl, SqL.of h1, rfl, _, _, rfl, rfl, _, rfl, ite3 (fun e1 => ?_) (fun e1 => ?_)⟩
    · refine ⟨_, rfl, _, _, _, _, rfl, rfl, SqL.of h1, rfl, .inl ⟨_, rfl, _, rfl, _, _, rfl, rfl, hm, ?_⟩⟩
      refine ⟨_, rfl, _, _, _, _, rfl, rfl, SqL.of h1, rfl, _, rfl, _, _, rfl, rfl, hdv _, _, rfl, _, _, _, _, rfl, rfl, h1, rfl, ?_⟩
      refine ⟨_, rfl, q _ _ (Int.emod_nonneg _ (by omega)) (Int.emod_lt_of_pos _ hm) ⟨gs, _, _, _, _, _, _, upd_same, by rw [upd_ne nsg.symm]; exact h2⟩ (fr2_st f)⟩
    · refine ⟨_, rfl, _, _, _, _, rfl, rfl, SqL.of h1, rfl, _, _, rfl, rfl, .inr (by decide), .inl ⟨_, rfl, _, _, rfl, rfl, (by show (0 : Int) < 2147483647; decide), _, rfl, _, _, _, _, rfl, rfl, h1, rfl, ?_⟩⟩
      refine ⟨_, rfl, _, _, _, _, rfl, rfl, SqL.of upd_same, rfl, _, _, rfl, rfl, _, rfl, _, _, _, _, rfl, rfl, upd_same, rfl, ?_⟩
      rw [upd_upd]
      refine ⟨_, rfl, _, _, _, _, rfl, rfl, SqL.of upd_same, rfl, _, _, rfl, rfl, .inr (by decide), _, rfl, _, _, _, _, rfl, rfl, SqL.of upd_same, rfl, _, _, rfl, rfl, .inr (by decide), _, _, rfl, rfl, .inl ⟨_, rfl, _, _, rfl, rfl, (by show (0 : Int) < 2147483629; decide), ?_⟩⟩
      refine ⟨_, rfl, .inl ⟨_, rfl, _, rfl, _, _, rfl, rfl, hm, ?_⟩⟩
      exact q _ _ (Int.emod_nonneg _ (by omega)) (Int.emod_lt_of_pos _ hm) ⟨gs, _, _, _, _, _, _, upd_same, by rw [upd_ne nsg.symm]; exact h2⟩ (fr2_st f)
end

section
variable {P : Program} {w : World} {K : PySem.W.Frag} {mg : Str → Option Value} {base : Heap} {a : Ad}
theorem ok_law_start (T : Txt w K mg a) : FnOk P w K mg base CX0 2 a.f_law_start a.d_law_start ["script"] (spStart K) := by
  have G_law_take : FnOk P w K mg base CX0 1 _ _ _ _ := ok_law_take T
  refine T.F__law_start.ok sc_law_start (fun vs H Q E h => ?_) (fun cdv A outer s H vs Q E hr h => ?_)
  · obtain ⟨_, _, rfl, _⟩ := h; rfl
  · obtain ⟨sa, ns, rfl, hS, hl, q⟩ := h
    refine ⟨_, (pss_cons (ps_set (i := 1) sc_law_start.nd rfl (Or.inl rfl) (pe_lst pa_nil))
      (pss_cons (ps_set (i := 2) sc_law_start.nd rfl (Or.inl rfl) pe_int)
      (pss_cons (ps_for PassesOwn.never rfl (pi_list (pv 0)) (pg_name (i := 3) sc_law_start.nd rfl (Or.inl rfl)) (pss_cons (ps_set (i := 2) sc_law_start.nd rfl (Or.inl rfl) (pe_op op_mod (pe_callTy call_int1 (by rfl) T.b_int (by decide +kernel) (pa_cons (pe_op op_add (pe_op op_add (pe_op op_mul (pv 2) pe_int) (pv 3)) pe_int) pa_nil)) pe_int))
      (pss_one (ps_if (pt_cmpR op_ge (pv 3) (pe_op op_pow pe_int pe_int) (nomark _)) (pss_one (ps_expr (pe_bm PySem.F.plainAttrs_list PySem.F.slot_list_append PySem.F.type_list_append mt_append (pv 1) (pa_cons (pv 3) pa_nil)))) pss_nil))))
      (C8.pss_cut (ps_set (i := 4) sc_law_start.nd rfl (Or.inl rfl) (pe_lst (pa_cons (pv 1) (pa_cons pe_int (pa_cons (pe_op op_add pe_int (pe_op op_mod (pe_callTy call_int1 (by rfl) T.b_int (by decide +kernel) (pa_cons (pv 2) pa_nil)) pe_int)) (pa_cons pe_int (pa_cons pe_int (pa_cons pe_int (pa_cons pe_int (pa_cons pe_int (pa_cons pe_int (pa_cons pe_int (pa_cons pe_int pa_nil)))))))))))))
      (C8.pss_cut (ps_asg (pe_op op_add pe_int (pe_call G_law_take (hr.mono (by decide)) rfl T.g__law_take T.k__law_take T.bd__law_take .nil pass0 (pa_cons (pv 4) (pa_cons pe_int pa_nil)))) (pg_sub (pv 4) pe_int set_list))
      (pss_cons (ps_asg (pe_call G_law_take (hr.mono (by decide)) rfl T.g__law_take T.k__law_take T.bd__law_take .nil pass0 (pa_cons (pv 4) (pa_cons pe_int pa_nil))) (pg_sub (pv 4) pe_int set_list))
      (pss_one (ps_ret (pv 4))))))))), ?_⟩
    refine ⟨by decide, fun g ng => ⟨_, rfl, sa, rfl, ⟨_, (Same.seq (sN (Same.refl H) ng) hS)⟩, for_list (K := K) (a := sa) (xs := ns.map V.int)
      (fun i σ H1 => ∃ (z : Int) (x : Option V) (gs : List Int), σ = [some (.ref sa), some (.ref g), some (.int z), x, none] ∧ H1 g = some (.lst (gs.map V.int)) ∧ gs.length ≤ i ∧ Same H H1)
      ⟨11, none, [], rfl, upd_same, Nat.le_refl _, sN (Same.refl H) ng⟩ (fun i σ H1 _ ⟨_, _, _, _, _, _, ss⟩ => ss.seq hS) ?_ ?_⟩⟩
    · rintro i x σ H1 hi ⟨z, x0, gs, rfl, hg, hgl, ss⟩
      have hilt : i < ns.length := by
        have := (List.getElem?_eq_some_iff.mp hi).1
        simpa using this
      obtain ⟨c, rfl⟩ : ∃ c, x = V.int c := by
        rw [List.getElem?_map] at hi
        cases e : ns[i]? with
        | none => rw [e] at hi; cases hi
        | some c => rw [e] at hi; exact ⟨c, (Option.some.inj hi).symm⟩
      refine ⟨_, rfl, _, _, rfl, rfl, .inr (by decide), _, rfl, _, _, rfl, rfl, _, _, rfl, rfl, .inl ⟨_, rfl, _, _, rfl, rfl, (by show (0 : Int) < 2147483647; decide), ?_⟩⟩
      refine ⟨_, rfl, _, _, rfl, rfl, ⟨by decide, by decide, by decide⟩, _, _, rfl, rfl, _, rfl, ite3 (fun e => ?_) (fun e => ?_)⟩
      · refine ⟨_, rfl, .inl ⟨rfl, _, SqL.of hg⟩, _, rfl, g, _, _, rfl, rfl, hg, small1000 (by simp; omega), ?_⟩
        exact ⟨_, _, gs ++ [c], rfl, by rw [upd_same, List.map_append]; rfl, by rw [List.length_append]; simp; omega, sUpd ss ng⟩
      · exact ⟨_, _, gs, rfl, hg, by omega, ss⟩
    · rintro σ H1 ⟨z, x0, gs, rfl, hg, _, ss⟩
      refine ⟨fun σ H' => ∃ st y, H st = none ∧ StAt H' st g ∧ Same H H' ∧ σ = [some (.ref sa), some (.ref g), y, x0, some (.ref st)], ?_, ?_⟩
      · refine ⟨_, rfl, _, rfl, .inl ⟨_, rfl, _, _, rfl, rfl, (by show (0 : Int) < 2147483600; decide), _, _, rfl, rfl, (by show 11 ≤ sizeLine; decide), fun st nst => ?_⟩⟩
        refine ⟨st, _, ss.free nst, ⟨gs, _, _, _, _, _, _, upd_same, ?_⟩, sN ss nst, rfl⟩
        rw [upd_ne (ne_of_none hg nst)]
        exact hg
      clear hg ss
      rintro σ H2 ⟨st, y, nst, S, ss, rfl⟩
      refine ⟨fun σ H' => StAt H' st g ∧ Same H H' ∧ σ = [some (.ref sa), some (.ref g), y, x0, some (.ref st)], ?_, ?_⟩
      · refine ⟨_, rfl, st, g, 900, rfl, S, by decide, by decide, fun v H3 v0 v1 S3 F3 => ⟨_, _, rfl, rfl, ?_⟩⟩
        obtain ⟨gs, d, s2, s3, s4, s5, s6, h1, h2⟩ := id S3
        refine ⟨_, rfl, _, _, _, 5, rfl, rfl, h1, rfl, ?_⟩
        have s3' := same_fr2 ss F3 nst ng
        exact ⟨⟨gs, d, s2, s3, s4, _, s6, upd_same, by rw [upd_ne S3.ne.symm]; exact h2⟩, sUpd s3' nst, rfl⟩
      clear S ss
      rintro σ H3 ⟨S, ss, rfl⟩
      refine ⟨_, rfl, st, g, 80, rfl, S, by decide, by decide, fun v H3 v0 v1 S3 F3 => ?_⟩
      obtain ⟨gs, d, s2, s3, s4, s5, s6, h1, h2⟩ := id S3
      refine ⟨_, rfl, _, _, _, 6, rfl, rfl, h1, rfl, ?_⟩
      have s3' := same_fr2 ss F3 nst ng
      exact ⟨_, rfl, q st g _ nst ng ⟨gs, d, s2, s3, s4, s5, _, upd_same, by rw [upd_ne S3.ne.symm]; exact h2⟩ (sUpd s3' nst)⟩
end

/-! ### instructions, in plain terms -/
def nmB (k : Nat) : Str := (["add", "sub", "mul", "div", "mod", "rem"] : List Str).getD k "add"
def nmU (k : Bool) : Str := if k = true then "abs" else "neg"
def nmC (k : Bool) : Str := if k = true then "equal" else "less"
inductive In where
  | mv (d : Int) (x : Op)
  | un (k : Bool) (d : Int) (x : Op) (p : Int)
  | bi (k : _root_.Fin 6) (d : Int) (x y : Op) (p : Int)
  | cm (k : Bool) (d : Int) (x y : Op)
  | ck (x : Op) (lo hi p : Int)
  | pu (x : Op)
  | ld (d h c n : Int) (e : Op)
  | st (h c n : Int) (e x : Op)
  | jm (t : Int)
  | br (x : Op) (t : Int)
  | ca (o h : Int) (xs : List Op) (rs : List Int) (p : Int)
  | ra (n p : Int)
  | ag (x y : Op)
  | ge (d p : Int)
  | re (xs : List Op)
  | ti
namespace In
def nm : In → Str
  | mv .. => "move"
  | un k .. => nmU k
  | bi k .. => nmB k.val
  | cm k .. => nmC k
  | ck .. => "check"
  | pu .. => "put"
  | ld .. => "load"
  | st .. => "store"
  | jm .. => "jump"
  | br .. => "branch"
  | ca .. => "call"
  | ra .. => "raise"
  | ag .. => "again"
  | ge .. => "get"
  | re .. => "return"
  | ti => "tick"
def ds : In → List PyData
  | mv d x => [.int d, opD x]
  | un _ d x p => [.int d, opD x, .int p]
  | bi _ d x y p => [.int d, opD x, opD y, .int p]
  | cm _ d x y => [.int d, opD x, opD y]
  | ck x lo hi p => [opD x, .int lo, .int hi, .int p]
  | pu x => [opD x]
  | ld d h c n e => [.int d, .int h, .int c, .int n, opD e]
  | st h c n e x => [.int h, .int c, .int n, opD e, opD x]
  | jm t => [.int t]
  | br x t => [opD x, .int t]
  | ca o h xs rs p => [.int o, .int h, .tuple (xs.map opD), .tuple (rs.map .int), .int p]
  | ra n p => [.int n, .int p]
  | ag x y => [opD x, opD y]
  | ge d p => [.int d, .int p]
  | re xs => [.tuple (xs.map opD)]
  | ti => []
def D (i : In) : PyData := .tuple (.str i.nm :: i.ds)
def ops : In → List Op
  | mv _ x => [x]
  | un _ _ x _ => [x]
  | bi _ _ x y _ => [x, y]
  | cm _ _ x y => [x, y]
  | ck x _ _ _ => [x]
  | pu x => [x]
  | ld _ _ _ _ e => [e]
  | st _ _ _ e x => [e, x]
  | jm _ => []
  | br x _ => [x]
  | ca _ _ xs _ _ => xs
  | ra _ _ => []
  | ag x y => [x, y]
  | ge _ _ => []
  | re xs => xs
  | ti => []
def wrt : In → List Int
  | mv d _ => [d]
  | un _ d _ _ => [d]
  | bi _ d _ _ _ => [d]
  | cm _ d _ _ => [d]
  | ld d _ _ _ _ => [d]
  | ge d _ => [d]
  | ca _ _ _ rs _ => rs
  | _ => []
/-- the instructions behind it, in the order of the law -/
def fol (ix : Int) : In → List Int
  | jm t => [t]
  | br _ t => [ix + 1, t]
  | ra _ _ => []
  | ag _ _ => []
  | re _ => []
  | _ => [ix + 1]
def can : In → Bool
  | un .. => true
  | bi .. => true
  | ck .. => true
  | ca .. => true
  | ra .. => true
  | ag .. => true
  | ge .. => true
  | _ => false
def OpOk (r : Int) (g : Op) : Prop := g.1 = ("int" : Str) ∨ (g.1 = ("reg" : Str) ∧ 0 ≤ g.2 ∧ g.2 < r)
def rg (r x : Int) : Prop := 0 ≤ x ∧ x < r
structure ok (r n i : Int) (x : In) : Prop where
  o : ∀ g ∈ x.ops, OpOk r g
  w : ∀ d ∈ x.wrt, rg r d
  f : ∀ t ∈ x.fol i, rg n t
  l : x.ops.length ≤ 10
  m : x.wrt.length ≤ 10
theorem nmU_c : ∀ k : Bool, nmU k ≠ "call" ∧ nmU k ≠ "return" ∧ nmU k ≠ "jump" ∧ nmU k ≠ "branch" ∧ inV (.str (nmU k)) wrs = true ∧ inV (.str (nmU k)) rss = true ∧ inV (.str (nmU k)) lvs = false := by decide +kernel
theorem nmC_c : ∀ k : Bool, nmC k ≠ "call" ∧ nmC k ≠ "return" ∧ nmC k ≠ "jump" ∧ nmC k ≠ "branch" ∧ inV (.str (nmC k)) wrs = true ∧ inV (.str (nmC k)) rss = false ∧ inV (.str (nmC k)) lvs = false := by decide +kernel
theorem nmB_c : ∀ k : _root_.Fin 6, nmB k.val ≠ "call" ∧ nmB k.val ≠ "return" ∧ nmB k.val ≠ "jump" ∧ nmB k.val ≠ "branch" ∧ inV (.str (nmB k.val)) wrs = true ∧ inV (.str (nmB k.val)) rss = true ∧ inV (.str (nmB k.val)) lvs = false := by decide +kernel
theorem opsOk (x : In) : OpsOk x.nm (.str x.nm :: x.ds) (x.ops.map opD) := by
  cases x with
  | un k d x p => exact .inr (.inr ⟨(nmU_c k).1, (nmU_c k).2.1, rfl⟩)
  | cm k d x y => exact .inr (.inr ⟨(nmC_c k).1, (nmC_c k).2.1, rfl⟩)
  | bi k d x y p => exact .inr (.inr ⟨(nmB_c k).1, (nmB_c k).2.1, rfl⟩)
  | ca o h xs rs p => exact .inl ⟨rfl, rfl⟩
  | re xs => exact .inr (.inl ⟨rfl, rfl⟩)
  | _ => exact .inr (.inr ⟨by dsimp only [In.nm]; decide +kernel, by dsimp only [In.nm]; decide +kernel, rfl⟩)
theorem wrOk (x : In) : WrOk x.nm (.str x.nm :: x.ds) (x.wrt.map .int) := by
  cases x with
  | un k d x p => exact .inr (.inl ⟨(nmU_c k).1, (nmU_c k).2.2.2.2.1, d, rfl, rfl⟩)
  | cm k d x y => exact .inr (.inl ⟨(nmC_c k).1, (nmC_c k).2.2.2.2.1, d, rfl, rfl⟩)
  | bi k d x y p => exact .inr (.inl ⟨(nmB_c k).1, (nmB_c k).2.2.2.2.1, d, rfl, rfl⟩)
  | ca o h xs rs p => exact .inl ⟨rfl, rfl⟩
  | mv d x => exact .inr (.inl ⟨by dsimp only [In.nm]; decide +kernel, by dsimp only [In.nm]; decide +kernel, d, rfl, rfl⟩)
  | ld d h c n e => exact .inr (.inl ⟨by dsimp only [In.nm]; decide +kernel, by dsimp only [In.nm]; decide +kernel, d, rfl, rfl⟩)
  | ge d p => exact .inr (.inl ⟨by dsimp only [In.nm]; decide +kernel, by dsimp only [In.nm]; decide +kernel, d, rfl, rfl⟩)
  | _ => exact .inr (.inr ⟨by dsimp only [In.nm]; decide +kernel, by dsimp only [In.nm]; decide +kernel, rfl⟩)
theorem canOk (x : In) : inV (.str x.nm) rss = x.can := by
  cases x with
  | un k d x p => exact (nmU_c k).2.2.2.2.2.1
  | cm k d x y => exact (nmC_c k).2.2.2.2.2.1
  | bi k d x y p => exact (nmB_c k).2.2.2.2.2.1
  | _ => dsimp only [In.nm, In.can]; decide +kernel
/-- as the program lists them: ascending, each once -/
def folP (ix : Int) : In → List Int
  | jm t => [t]
  | br _ t => if t = ix + 1 then [ix + 1] else [mn t (ix + 1), mx t (ix + 1)]
  | ra _ _ => []
  | ag _ _ => []
  | re _ => []
  | _ => [ix + 1]
theorem foOk (x : In) (ix : Int) : FoOk x.nm (.str x.nm :: x.ds) ix ((x.folP ix).map .int) := by
  cases x with
  | un k d x p => exact .inr (.inr (.inr (.inr ⟨(nmU_c k).2.2.2.2.2.2, (nmU_c k).2.2.1, (nmU_c k).2.2.2.1, rfl⟩)))
  | cm k d x y => exact .inr (.inr (.inr (.inr ⟨(nmC_c k).2.2.2.2.2.2, (nmC_c k).2.2.1, (nmC_c k).2.2.2.1, rfl⟩)))
  | bi k d x y p => exact .inr (.inr (.inr (.inr ⟨(nmB_c k).2.2.2.2.2.2, (nmB_c k).2.2.1, (nmB_c k).2.2.2.1, rfl⟩)))
  | jm t => exact .inr (.inl ⟨by dsimp only [In.nm]; decide +kernel, rfl, t, rfl, rfl⟩)
  | br x t =>
    by_cases c : t = ix + 1
    · exact .inr (.inr (.inr (.inl ⟨by dsimp only [In.nm]; decide +kernel, by dsimp only [In.nm]; decide +kernel, rfl, t, rfl, c, by show ((if t = ix + 1 then _ else _ : List Int)).map PyData.int = _; rw [if_pos c]; rfl⟩)))
    · exact .inr (.inr (.inl ⟨by dsimp only [In.nm]; decide +kernel, by dsimp only [In.nm]; decide +kernel, rfl, t, rfl, c, by show ((if t = ix + 1 then _ else _ : List Int)).map PyData.int = _; rw [if_neg c]; rfl⟩))
  | ra n p => exact .inl ⟨by dsimp only [In.nm]; decide +kernel, rfl⟩
  | ag x y => exact .inl ⟨by dsimp only [In.nm]; decide +kernel, rfl⟩
  | re xs => exact .inl ⟨by dsimp only [In.nm]; decide +kernel, rfl⟩
  | _ => exact .inr (.inr (.inr (.inr ⟨by dsimp only [In.nm]; decide +kernel, by dsimp only [In.nm]; decide +kernel, by dsimp only [In.nm]; decide +kernel, rfl⟩)))
theorem folP_mem (x : In) (ix t : Int) : t ∈ x.folP ix ↔ t ∈ x.fol ix := by
  cases x with
  | br x u =>
    show t ∈ (if u = ix + 1 then [ix + 1] else [mn u (ix + 1), mx u (ix + 1)]) ↔ t ∈ [ix + 1, u]
    unfold mn mx
    split
    · rename_i e; simp [e]
    · split <;> split <;> simp <;> omega
  | _ => exact Iff.rfl
end In

theorem ixN_nat {n k : Nat} (h : k < n) : ixN n (k : Int) = some k := by
  unfold ixN
  simp
  omega

/-! ### tags: who owns an address (owner, sort, number) -/
abbrev Tg : Type := Addr → Nat × Nat × Nat
def tgN (τ : Tg) (p : Addr) (x : Nat × Nat × Nat) : Tg := fun b => if b = p then x else τ b
theorem tg_same {τ : Tg} {p : Addr} {x : Nat × Nat × Nat} : tgN τ p x p = x := if_pos rfl
theorem tg_ne {τ : Tg} {p b : Addr} {x : Nat × Nat × Nat} (h : b ≠ p) : tgN τ p x b = τ b := if_neg h
theorem ne_tag {τ : Tg} {p q : Addr} {x y : Nat × Nat × Nat} (h1 : τ p = x) (h2 : τ q = y) (h : x ≠ y) : p ≠ q := fun e => h (by rw [← h1, ← h2, e])
/-- a step that writes at the owners S alone -/
structure Stp (τ τ' : Tg) (S : List Nat) (H H' : Hp) : Prop where
  fr : ∀ b o, H b = some o → (τ b).1 ∉ S → H' b = some o
  ag : ∀ b, H b ≠ none → τ' b = τ b
  al : ∀ b, H b ≠ none → H' b ≠ none
theorem some_ne {H : Hp} {b : Addr} {o : HO} (h : H b = some o) : H b ≠ none := by rw [h]; exact fun z => nomatch z
namespace Stp
variable {τ τ' τ2 : Tg} {S S' : List Nat} {H H' H2 : Hp}
theorem refl : Stp τ τ S H H := ⟨fun _ _ h _ => h, fun _ _ => rfl, fun _ h => h⟩
theorem mono (h : Stp τ τ' S H H') (i : ∀ x ∈ S, x ∈ S') : Stp τ τ' S' H H' := ⟨fun b o e n => h.fr b o e fun m => n (i _ m), h.ag, h.al⟩
theorem tr (x : Stp τ τ' S H H') (y : Stp τ' τ2 S H' H2) : Stp τ τ2 S H H2 :=
  ⟨fun b o e n => y.fr b o (x.fr b o e n) (by rw [x.ag b (some_ne e)]; exact n), fun b e => (y.ag b (x.al b e)).trans (x.ag b e), fun b e => y.al b (x.al b e)⟩
theorem same (h : Same H H') : Stp τ τ S H H' := ⟨fun b o e _ => h b o e, fun _ _ => rfl, fun b e => by
  cases z : H b with
  | none => exact absurd z e
  | some o => exact some_ne (h b o z)⟩
theorem new {p : Addr} {o : HO} {x : Nat × Nat × Nat} (h : Stp τ τ' S H H') (n : H' p = none) : Stp τ (tgN τ' p x) S H (upd H' p o) :=
  h.tr ⟨fun b u e _ => by rw [upd_ne (ne_of_none e n)]; exact e, fun b e => tg_ne fun z => e (by rw [z]; exact n), fun b e => by
    rw [upd_ne fun z => e (by rw [z]; exact n)]; exact e⟩
theorem put {p : Addr} {o : HO} (h : Stp τ τ' S H H') (m : (τ' p).1 ∈ S) : Stp τ τ' S H (upd H' p o) :=
  h.tr ⟨fun b u e n => by rw [upd_ne fun z => n (by rw [z]; exact m)]; exact e, fun _ _ => rfl, fun b e => by
    by_cases z : b = p
    · rw [z, upd_same]; exact fun z => nomatch z
    · rw [upd_ne z]; exact e⟩
theorem at_ {b : Addr} {o : HO} {x : Nat × Nat × Nat} (h : Stp τ τ' S H H') (e : H b = some o) (t : τ b = x) (n : x.1 ∉ S) : H' b = some o ∧ τ' b = x :=
  ⟨h.fr b o e (by rw [t]; exact n), (h.ag b (some_ne e)).trans t⟩
end Stp
/-- H p = o, with its tag -/
def At (τ : Tg) (H : Hp) (p : Addr) (o : HO) (x : Nat × Nat × Nat) : Prop := H p = some o ∧ τ p = x
namespace At
variable {τ τ' : Tg} {S : List Nat} {H H' : Hp} {p q : Addr} {o u : HO} {x y : Nat × Nat × Nat}
theorem st (h : At τ H p o x) (s : Stp τ τ' S H H') (n : x.1 ∉ S) : At τ' H' p o x := s.at_ h.1 h.2 n
theorem put (h : At τ H p o x) (t : τ q = y) (n : x ≠ y) : At τ (upd H q u) p o x := ⟨by rw [upd_ne (ne_tag h.2 t n)]; exact h.1, h.2⟩
theorem set (t : τ p = x) : At τ (upd H p o) p o x := ⟨upd_same, t⟩
theorem new (h : At τ H p o x) (n : H q = none) : At (tgN τ q y) (upd H q u) p o x := ⟨by rw [upd_ne (ne_of_none h.1 n)]; exact h.1, (tg_ne (ne_of_none h.1 n)).trans h.2⟩
theorem mk : At (tgN τ p x) (upd H p o) p o x := ⟨upd_same, tg_same⟩
theorem same (h : At τ H p o x) (s : Same H H') : At τ H' p o x := ⟨s _ _ h.1, h.2⟩
end At
theorem Stp.sameN {τ τ' : Tg} {S : List Nat} {H H1 H2 : Hp} {p : Addr} {x : Nat × Nat × Nat} (h : Stp τ τ' S H H1) (s : Same H1 H2) (n : H1 p = none) : Stp τ (tgN τ' p x) S H H2 :=
  h.tr ⟨fun b o e _ => s b o e, fun b e => tg_ne fun z => e (by rw [z]; exact n), (Stp.same (τ := τ) (S := S) s).al⟩
theorem At.sameN {τ : Tg} {H H' : Hp} {p q : Addr} {o : HO} {x y : Nat × Nat × Nat} (h : At τ H p o x) (s : Same H H') (n : H q = none) : At (tgN τ q y) H' p o x := ⟨s _ _ h.1, (tg_ne (ne_of_none h.1 n)).trans h.2⟩
theorem At.in {τ : Tg} {H : Hp} {p : Addr} {o : HO} {x : Nat × Nat × Nat} (e : H p = some o) : At (tgN τ p x) H p o x := ⟨e, tg_same⟩
/-! ### slices -/
theorem cut_lo (xs : List V) (a : Nat) : cutV xs (some (a : Int)) none = xs.drop a := by
  unfold cutV
  rw [HT.sIx_nat, HT.sIx_none]
  by_cases h : a ≤ xs.length
  · rw [Nat.min_eq_left h, List.take_of_length_le (by rw [List.length_drop]; omega)]
  · rw [Nat.min_eq_right (by omega), List.drop_eq_nil_of_le (Nat.le_refl _), List.drop_eq_nil_of_le (show xs.length ≤ a by omega), List.take_nil]
theorem cut_hi (xs : List V) (b : Nat) : cutV xs none (some (b : Int)) = xs.take b := by
  unfold cutV
  rw [HT.sIx_nat, HT.sIx_none, List.drop_zero, Nat.sub_zero]
  by_cases h : b ≤ xs.length
  · rw [Nat.min_eq_left h]
  · rw [Nat.min_eq_right (by omega), List.take_of_length_le (Nat.le_refl _), List.take_of_length_le (show xs.length ≤ b by omega)]
theorem cut_mid (xs : List V) (a b : Nat) (h : a ≤ b) (h2 : b ≤ xs.length) : cutV xs (some (a : Int)) (some (b : Int)) = (xs.drop a).take (b - a) := by
  unfold cutV
  rw [HT.sIx_nat, HT.sIx_nat, Nat.min_eq_left (show a ≤ xs.length by omega), Nat.min_eq_left h2]
theorem rep_int (n : Nat) : (List.replicate n [V.int 0]).flatten = (List.replicate n (0 : Int)).map V.int := by
  induction n with
  | zero => rfl
  | succ n ih => rw [List.replicate_succ, List.flatten_cons, ih, List.replicate_succ]; rfl

/-! ### lists read and written -/
theorem at_map {ys : List Int} {j : Nat} (h : j < ys.length) : (ys.map V.int)[j]? = some (V.int (ys.getD j 0)) := by
  rw [List.getElem?_map, List.getD_eq_getElem?_getD, List.getElem?_eq_getElem h] <;> rfl
theorem set_int {ys : List Int} {j : Nat} {w : Int} : (ys.map V.int).set j (V.int w) = (ys.set j w).map V.int := by rw [List.map_set]
theorem rng_at {f : Nat → V} {n k : Nat} (h : k < n) : ((List.range n).map f)[k]? = some (f k) := by simp [h]
theorem rng_len {f : Nat → V} {n : Nat} : ((List.range n).map f).length = n := by simp
theorem rng_drop {f : Nat → V} {n : Nat} : ((List.range (n + 1)).map f).dropLast = (List.range n).map f := by
  rw [List.range_succ, List.map_append]
  exact List.dropLast_concat
theorem rng_up {f g : Nat → V} {n : Nat} (h : ∀ k, k < n → f k = g k) : (List.range n).map f = (List.range n).map g := List.map_congr_left fun k hk => h k (List.mem_range.mp hk)
def upA (f : Nat → Addr) (k : Nat) (y : Addr) : Nat → Addr := fun j => if j = k then y else f j
theorem upA_same {f : Nat → Addr} {k : Nat} {y : Addr} : upA f k y k = y := if_pos rfl
theorem upA_ne {f : Nat → Addr} {k j : Nat} {y : Addr} (h : j ≠ k) : upA f k y j = f j := if_neg h
theorem rng_app {f : Nat → Addr} {n : Nat} {p : Addr} : ((List.range n).map fun k => V.ref (f k)) ++ [V.ref p] = (List.range (n + 1)).map fun k => V.ref (upA f n p k) := by
  rw [List.range_succ, List.map_append]
  congr 1
  · exact rng_up fun k hk => by rw [upA_ne (by omega)]
  · show _ = [V.ref (upA f n p n)]
    rw [upA_same]
theorem sz {n : Nat} (h : n ≤ 900) : n < sizeLine := small1000 (by omega)
theorem mem1 {i : Nat} {x : Nat × Nat × Nat} {τ : Tg} {p : Addr} (h : τ p = x) (e : x.1 = i) : (τ p).1 ∈ [i] := by rw [h, e]; exact List.mem_singleton.mpr rfl

theorem DTs.ints {K : PySem.W.Frag} {H : Hp} : ∀ {xs : List V} {ns : List Int}, DTs K H xs (ns.map .int) → xs = ns.map V.int
  | _, [], h => h.em
  | _, n :: r, h => by
    obtain ⟨v, vs, e, k, t⟩ := h.un
    rw [e, k.i, t.ints]
    rfl

/-! ### the draws under tags -/
structure StT (τ : Tg) (H : Hp) (st g : Addr) : Prop where
  p : StAt H st g
  ts : τ st = (4, 0, 0)
  tg : τ g = (4, 1, 0)
/-- writes at the state alone; tuples stay -/
structure GS (K : PySem.W.Frag) (τ τ' : Tg) (H H' : Hp) : Prop where
  s : Stp τ τ' [4] H H'
  k : KT K H H'
namespace GS
variable {K : PySem.W.Frag} {τ τ' τ2 : Tg} {H H' H2 : Hp}
theorem refl : GS K τ τ H H := ⟨Stp.refl, fun _ _ h => h⟩
theorem tr (x : GS K τ τ' H H') (y : GS K τ' τ2 H' H2) : GS K τ τ2 H H2 := ⟨x.s.tr y.s, x.k.tr y.k⟩
theorem new {p : Addr} {o : HO} {x : Nat × Nat × Nat} (h : GS K τ τ' H H') (n : H' p = none) : GS K τ (tgN τ' p x) H (upd H' p o) := ⟨h.s.new n, h.k.tr (KT.new n)⟩
theorem same (s : Same H H') : GS K τ τ H H' := ⟨Stp.same s, KT.same s⟩
end GS
theorem StT.step {τ τ' : Tg} {Z : List Nat} {H H' : Hp} {st g : Addr} (h : StT τ H st g) (s : Stp τ τ' Z H H') (n : 4 ∉ Z) : StT τ' H' st g := by
  obtain ⟨gs, d, s2, s3, s4, s5, s6, h1, h2⟩ := h.p
  obtain ⟨a1, b1⟩ := s.at_ h1 h.ts n
  obtain ⟨a2, b2⟩ := s.at_ h2 h.tg n
  exact ⟨⟨gs, d, s2, s3, s4, s5, s6, a1, a2⟩, b1, b2⟩
theorem StT.new {τ : Tg} {H : Hp} {st g p : Addr} {o : HO} {x : Nat × Nat × Nat} (h : StT τ H st g) (n : H p = none) : StT (tgN τ p x) (upd H p o) st g := h.step ((Stp.refl (S := [])).new n) (by simp)
theorem StT.fr {K : PySem.W.Frag} {τ : Tg} {H H' : Hp} {st g : Addr} (h : StT τ H st g) (S' : StAt H' st g) (f : Fr2 st g H H') : StT τ H' st g ∧ GS K τ τ H H' := by
  obtain ⟨gs, d, s2, s3, s4, s5, s6, h1, h2⟩ := h.p
  refine ⟨⟨S', h.ts, h.tg⟩, ⟨fun b o e n => f b o e (fun z => n (by rw [z, h.ts]; simp)) (fun z => n (by rw [z, h.tg]; simp)), fun _ _ => rfl, fun b e => ?_⟩, fun a xs q => ?_⟩
  · obtain ⟨_, _, _, _, _, _, _, k1, k2⟩ := S'
    by_cases c1 : b = st
    · rw [c1]; exact some_ne k1
    by_cases c2 : b = g
    · rw [c2]; exact some_ne k2
    cases q : H b with
    | none => exact absurd q e
    | some o => exact some_ne (f b o q c1 c2)
  · rcases q with (q | ⟨u, q⟩) | q
    · exact .inl (.inl (f _ _ q (ne_of q h1 fun z => nomatch z) (ne_of q h2 fun z => nomatch z)))
    · exact .inl (.inr ⟨u, f _ _ q (ne_of q h1 fun z => nomatch z) (ne_of q h2 fun z => nomatch z)⟩)
    · exact .inr q
def spTakeT (K : PySem.W.Frag) : Sp := fun vs H Q _ => ∃ (τ : Tg) (st g : Addr) (m : Int), vs = [.ref st, .int m] ∧ StT τ H st g ∧ 0 < m ∧ m < 2 ^ 62 ∧ ∀ (v : Int) (H' : Hp), 0 ≤ v → v < m → StT τ H' st g → GS K τ τ H H' → Q (.int v) H'
def spPlaceT (K : PySem.W.Frag) : Sp := fun vs H Q _ => ∃ (τ : Tg) (st g : Addr), vs = [.ref st] ∧ StT τ H st g ∧ ∀ (u : V) (x y : Int) (τ' : Tg) (H' : Hp), DT K H' u (.tuple [.int x, .int y]) → StT τ' H' st g → GS K τ τ' H H' → Q u H'
def spOperT (K : PySem.W.Frag) : Sp := fun vs H Q _ => ∃ (τ : Tg) (st g p : Addr) (r : List Int) (x : Nat × Nat × Nat), vs = [.ref st, .ref p] ∧ StT τ H st g ∧ At τ H p (.lst (r.map V.int)) x ∧ x.1 ≠ 4 ∧ 3 < r.length ∧ 0 < r.getD 3 0 ∧ r.getD 3 0 < 1000 ∧
  ∀ (u : V) (o : Op) (τ' : Tg) (H' : Hp), DT K H' u (opD o) → In.OpOk (r.getD 3 0) o → StT τ' H' st g → GS K τ τ' H H' → Q u H'
def spTargT (K : PySem.W.Frag) : Sp := fun vs H Q _ => ∃ (τ : Tg) (st g p : Addr) (bs : List Bool) (i : Nat) (x : Nat × Nat × Nat), vs = [.ref st, .int i, .ref p] ∧ StT τ H st g ∧ At τ H p (.lst (bs.map V.bl)) x ∧ x.1 ≠ 4 ∧ i + 1 < bs.length ∧ bs.length < 1000 ∧
  ∀ (t : Int) (H' : Hp), 0 ≤ t → t < bs.length → StT τ H' st g → GS K τ τ H H' → Q (.int t) H'
section
variable {P : Program} {w : World} {K : PySem.W.Frag} {mg : Str → Option Value} {base : Heap} {a : Ad}
theorem ok_takeT (T : Txt w K mg a) : FnOk P w K mg base CX0 1 a.f_law_take a.d_law_take ["state", "many"] (spTakeT K) :=
  FnOk.imp (ok_law_take T) fun vs H Q E ⟨τ, st, g, m, e, S, h1, h2, q⟩ => ⟨st, g, m, e, S.p, h1, h2, fun v H' v0 v1 S' f => q v H' v0 v1 (S.fr (K := K) S' f).1 (S.fr S' f).2⟩
theorem ok_law_place (T : Txt w K mg a) : FnOk P w K mg base CX0 1 a.f_law_place a.d_law_place ["state"] (spPlaceT K) := by
  refine T.F__law_place.ok sc_law_place (fun vs H Q E h => ?_) (fun cdv A outer s H vs Q E hr h => ?_)
  · obtain ⟨_, _, _, rfl, _⟩ := h; rfl
  · obtain ⟨τ, st, g, rfl, S, q⟩ := h
    refine ⟨_, (pss_cons (ps_asg (pe_op op_add (pe_ix ix_list (pv 0) pe_int (fun _ _ => rfl)) pe_int) (pg_sub (pv 0) pe_int set_list))
      (pss_one (ps_ret (pe_tup (pa_cons (pe_op op_add (pe_ix ix_list (pv 0) pe_int (fun _ _ => rfl)) (pe_op op_fdivW (pe_ix ix_list (pv 0) pe_int (fun _ _ => rfl)) pe_int)) (pa_cons (pe_op op_add pe_int (pe_op op_mod (pe_callTy call_int1 (by rfl) T.b_int (by decide +kernel) (pa_cons (pe_op op_add (pe_ix ix_list (pv 0) pe_int (fun _ _ => rfl)) (pe_op op_mul (pe_ix ix_list (pv 0) pe_int (fun _ _ => rfl)) pe_int)) pa_nil)) pe_int)) pa_nil)))))), ?_⟩
    obtain ⟨gs, d, s2, s3, s4, s5, s6, h1, h2⟩ := id S.p
    refine ⟨_, rfl, _, _, _, _, rfl, rfl, SqL.of h1, atI_nat (j := 4) rfl, _, _, rfl, rfl, _, rfl, _, _, _, 4, rfl, rfl, h1, rfl, ?_⟩
    have hst : upd H st (.lst ((sL g d s2 s3 s4 s5 s6).set 4 (V.int (s4 + 1)))) st = some (.lst (sL g d s2 s3 (s4 + 1) s5 s6)) := upd_same
    have F : Fr2 st g H (upd H st (.lst ((sL g d s2 s3 s4 s5 s6).set 4 (V.int (s4 + 1))))) := fr2_st fr2_refl
    obtain ⟨S1, G1⟩ := S.fr (K := K) (H' := upd H st (.lst ((sL g d s2 s3 s4 s5 s6).set 4 (V.int (s4 + 1))))) ⟨gs, d, s2, s3, s4 + 1, s5, s6, hst, by rw [upd_ne S.p.ne.symm]; exact h2⟩ F
    generalize upd H st (.lst ((sL g d s2 s3 s4 s5 s6).set 4 (V.int (s4 + 1)))) = H1 at hst S1 G1 ⊢
    refine ⟨_, rfl, _, _, _, _, rfl, rfl, SqL.of hst, atI_nat (j := 5) rfl, _, rfl, _, _, _, _, rfl, rfl, SqL.of hst, atI_nat (j := 4) rfl, _, _, rfl, rfl, ⟨by decide, by decide +kernel⟩, _, _, rfl, rfl, ?_⟩
    refine ⟨_, rfl, _, _, _, _, rfl, rfl, SqL.of hst, atI_nat (j := 6) rfl, _, rfl, _, _, _, _, rfl, rfl, SqL.of hst, atI_nat (j := 4) rfl, _, _, rfl, rfl, .inr ⟨by decide, by decide⟩, _, _, rfl, rfl, .inl ⟨_, rfl, _, _, rfl, rfl, (by show (0 : Int) < 80; decide), _, _, rfl, rfl, (by show 2 ≤ sizeLine; decide), fun t nt => ?_⟩⟩
    exact q _ _ _ _ _ (.tup (SqT.of upd_same) (.cons (.int _) (.cons (.int _) .nil))) (S1.new nt (x := (7, 0, 0))) (G1.new nt)
end

/-! ### fields of a module -/
def moF (v0 v1 v2 : V) : List (Str × V) := putF "places" v2 (putF "names" v1 (putF "units" v0 []))
theorem mo_n1 : ¬ ("units" : Str) = "places" := by decide +kernel
theorem mo_n2 : ¬ ("units" : Str) = "names" := by decide +kernel
theorem mo_un (v0 v1 v2 : V) : (moF v0 v1 v2).lookup ("units" : Str) = some v0 :=
  ((lookup_putF "places" "units" v2 _).trans (if_neg mo_n1)).trans (((lookup_putF "names" "units" v1 _).trans (if_neg mo_n2)).trans ((lookup_putF "units" "units" v0 _).trans (if_pos rfl)))
theorem mo_n3 : ¬ ("names" : Str) = "places" := by decide +kernel
theorem mo_na (v0 v1 v2 : V) : (moF v0 v1 v2).lookup ("names" : Str) = some v1 :=
  ((lookup_putF "places" "names" v2 _).trans (if_neg mo_n3)).trans ((lookup_putF "names" "names" v1 _).trans (if_pos rfl))
theorem mo_pl (v0 v1 v2 : V) : (moF v0 v1 v2).lookup ("places" : Str) = some v2 := (lookup_putF "places" "places" v2 _).trans (if_pos rfl)
theorem mo_n4 : ¬ ("regions" : Str) = "places" ∧ ¬ ("regions" : Str) = "names" ∧ ¬ ("regions" : Str) = "units" := by decide +kernel
theorem mo_rg (v0 v1 v2 : V) : (moF v0 v1 v2).lookup ("regions" : Str) = none :=
  ((lookup_putF "places" "regions" v2 _).trans (if_neg mo_n4.1)).trans (((lookup_putF "names" "regions" v1 _).trans (if_neg mo_n4.2.1)).trans ((lookup_putF "units" "regions" v0 _).trans (if_neg mo_n4.2.2)))
theorem KT.putI {K : PySem.W.Frag} {H : Hp} {p C d : Addr} {fs : List (Str × V)} {o : HO} (e : H p = some (.ins C d fs)) : KT K H (upd H p o) := fun a xs h => by
  rcases h with (h | ⟨u, h⟩) | h
  · exact .inl (.inl (by rw [upd_ne (ne_of h e fun z => nomatch z)]; exact h))
  · exact .inl (.inr ⟨u, by rw [upd_ne (ne_of h e fun z => nomatch z)]; exact h⟩)
  · exact .inr h

/-! ### the abstract machine -/
structure UI where
  par : Int
  ar : Nat
  rs : Nat
  g : Nat
  cl : Nat
  xs : List In
  rg : List (List Int)
structure Ac where
  u : Nat
  i : Nat
  ws : List Int
  cs : List Int
  lk : Option Nat
inductive En where
  | norm
  | exh
  | fault
  | rais (n p : Int)
structure Ms where
  st : List Ac
  ev : List (Bool × Int)
  tk : Nat
  fu : Int
  en : Option En
structure Ev where
  us : List UI
  inp : List Int
  nms : List Str
  pls : List (Int × Int)
def uN : UI := ⟨-1, 0, 0, 0, 0, [], []⟩
def Ev.u (E : Ev) (k : Nat) : UI := E.us.getD k uN
def vl (ws : List Int) (o : Op) : Int := if o.1 = ("int" : Str) then o.2 else ws.getD o.2.toNat 0
def Ac.val (a : Ac) (o : Op) : Int := vl a.ws o
def Ac.wr (a : Ac) (d v : Int) : Ac := { a with ws := a.ws.set d.toNat v }
def Ac.nx (a : Ac) : Ac := { a with i := a.i + 1 }
def Ac.go (a : Ac) (t : Int) : Ac := { a with i := t.toNat }
/-- the region that takes an exception of this activation -/
def Ev.reg (E : Ev) (a : Ac) : Option (List Int) := (E.u a.u).rg.find? (inR ((a.i : Int) - 1))
def Ac.enter (a : Ac) (q : List Int) (n p : Int) : Ac := ((a.go (q.getD 2 0)).wr (q.getD 3 0) n).wr (q.getD 4 0) p
def unw (E : Ev) (n p : Int) : List Ac → Option (List Ac)
  | [] => none
  | a :: r => match E.reg a with
    | some q => some (a.enter q n p :: r)
    | none => unw E n p r
def raiseS (E : Ev) (S : Ms) (n p : Int) : Ms := match unw E n p S.st with
  | some st => { S with st := st }
  | none => { S with en := some (.rais n p) }
/-- the activation at a place of the stack, counted from the outermost -/
def pos (st : List Ac) (j : Nat) : Option Ac := if j < st.length then st[st.length - 1 - j]? else none
/-- where hops lead from the activation at place j -/
def outw (st : List Ac) : Nat → Nat → Option Nat
  | 0, j => if j < st.length then some j else none
  | h + 1, j => match pos st j with
    | some a => match a.lk with
      | some k => outw st h k
      | none => none
    | none => none
def setAt (st : List Ac) (j : Nat) (a : Ac) : List Ac := st.set (st.length - 1 - j) a
def unF' (k : Bool) (n : Int) : Int := if k = true then ab n else -n
def resO (xs : List Int) (vs : List Int) (ws : List Int) : List Int := (xs.zip vs).foldl (fun w z => w.set z.1.toNat z.2) ws
def newA (E : Ev) (o : Nat) (lk : Option Nat) (vs : List Int) : Ac :=
  { u := o, i := 0, ws := resO ((List.range (E.u o).ar).map Int.ofNat) vs (List.replicate (E.u o).g 0), cs := List.replicate (E.u o).cl 0, lk := lk }
instance {k : Nat} {r : Int} : Decidable (zer k r) := inferInstanceAs (Decidable (_ ∧ _))
def actB (E : Ev) (S : Ms) (b : Ac) (r : List Ac) : In → Ms
  | .ti => if S.fu = 0 then { S with st := b :: r, en := some .exh } else { S with st := b :: r, fu := S.fu - 1 }
  | .mv d o => { S with st := b.wr d (b.val o) :: r }
  | .un k d o p => if isW (unF' k (b.val o)) = true then { S with st := b.wr d (unF' k (b.val o)) :: r } else raiseS E { S with st := b :: r } 0 p
  | .bi k d x y p => if ¬ zer k.val (b.val y) ∧ isW (resC k.val (b.val x) (b.val y)) = true then { S with st := b.wr d (resC k.val (b.val x) (b.val y)) :: r } else raiseS E { S with st := b :: r } 0 p
  | .cm k d x y => { S with st := b.wr d (resC (if k = true then 7 else 6) (b.val x) (b.val y)) :: r }
  | .ck x lo hi p => if lo ≤ b.val x ∧ b.val x ≤ hi then { S with st := b :: r } else raiseS E { S with st := b :: r } 0 p
  | .ld d h c n e => if 0 ≤ b.val e ∧ b.val e < n then (match outw (b :: r) h.toNat r.length with
        | some j => match pos (b :: r) j with
          | some o => { S with st := b.wr d (o.cs.getD (c + b.val e).toNat 0) :: r }
          | none => S
        | none => S) else { S with st := b :: r, en := some .fault }
  | .st h c n e x => if 0 ≤ b.val e ∧ b.val e < n then (match outw (b :: r) h.toNat r.length with
        | some j => match pos (b :: r) j with
          | some o => { S with st := setAt (b :: r) j { o with cs := o.cs.set (c + b.val e).toNat (b.val x) } }
          | none => S
        | none => S) else { S with st := b :: r, en := some .fault }
  | .jm t => { S with st := b.go t :: r }
  | .br x t => if b.val x ≠ 0 then { S with st := b.go t :: r } else { S with st := b :: r }
  | .ca o h xs _ p => if r.length + 1 = 10 then raiseS E { S with st := b :: r } 2 p else (match outw (b :: r) h.toNat r.length with
        | some j => { S with st := newA E o.toNat (some j) (xs.map b.val) :: b :: r }
        | none => S)
  | .re xs => match r with
      | [] => { S with st := b :: r, en := some .norm }
      | c :: r' => match (E.u c.u).xs.getD (c.i - 1) .ti with
      | .ca _ _ _ rs _ => { S with st := { c with ws := resO rs (xs.map b.val) c.ws } :: r' }
        | _ => S
  | .ra n p => raiseS E { S with st := b :: r } n p
  | .ag x y => if (0 ≤ b.val x ∧ b.val x < E.nms.length) ∧ (0 ≤ b.val y ∧ b.val y < E.pls.length) then raiseS E { S with st := b :: r } (b.val x) (b.val y) else { S with st := b :: r, en := some .fault }
  | .pu x => { S with st := b :: r, ev := S.ev ++ [(true, b.val x)] }
  | .ge d p => match E.inp[S.tk]? with
      | some v => { S with st := b.wr d v :: r, ev := S.ev ++ [(false, v)], tk := S.tk + 1 }
      | none => raiseS E { S with st := b :: r } 3 p
def stepS (E : Ev) (S : Ms) : Ms := match S.st with
  | [] => S
  | a :: r => actB E { S with st := a.nx :: r } a.nx r ((E.u a.u).xs.getD a.i .ti)
def evD (z : Bool × Int) : PyData := .tuple [.str (if z.1 = true then "put" else "get"), .int z.2]
def plD (z : Int × Int) : PyData := .tuple [.int z.1, .int z.2]
def enD (E : Ev) : En → PyData
  | .norm => .tuple [.str "normal"]
  | .exh => .tuple [.str "exhausted"]
  | .fault => .tuple [.str "fault"]
  | .rais n p => .tuple [.str "raised", .str (E.nms.getD n.toNat ""), .int (E.pls.getD p.toNat (0, 0)).1, .int (E.pls.getD p.toNat (0, 0)).2]
/-! ### the machine in the heap -/
structure Ads where
  ev : Addr
  fu : Addr
  inl : Addr
  rw : Addr
  lo : Addr
  mo : Addr
  A : Nat → Addr
  W : Nat → Addr
  C : Nat → Addr
  U : Nat → Addr
  Y : Nat → Addr
def lkV (A : Nat → Addr) : Option Nat → V
  | some k => .ref (A k)
  | none => .non
def clV (A : Nat → Addr) (j : Nat) : V := if j = 0 then .non else .ref (A (j - 1))
def rgV' (n : Nat) : List V := (List.range n).map fun (k : Nat) => V.int (k : Int)
section
variable (K : PySem.W.Frag) (a : Ad) (τ : Tg) (H : Hp) (E : Ev) (L : Ads)
/-- an activation at place j -/
def AcR (j : Nat) (c : Ac) : Prop := ∃ (dx wa : Addr), At τ H (L.A j) (.ins a.C_Activation dx (acF c.u (L.U c.u) wa (L.W j) (L.C j) (lkV L.A c.lk) (clV L.A j) (((j + 1 : Nat) : Int)) c.i)) (6, 0, j) ∧
  At τ H (L.W j) (.lst (c.ws.map V.int)) (6, 1, j) ∧ At τ H (L.C j) (.lst (c.cs.map V.int)) (6, 2, j) ∧ SqT K H wa (rgV' c.ws.length)
def StR : List Ac → Prop
  | [] => True
  | c :: t => AcR K a τ H L t.length c ∧ StR t
structure UnR (k : Nat) (u : UI) : Prop where
  o : ∃ (dx ca ra : Addr) (us ws : List V), At τ H (L.U k) (.ins a.C_Unit dx (unF (.int u.par) (.int u.ar) (.int u.rs) (.int u.g) (.int u.cl) (.ref ca) (.ref ra))) (2, 0, 0) ∧ SqT K H ca us ∧ DTs K H us (u.xs.map In.D) ∧ SqT K H ra ws ∧ DTs K H ws (u.rg.map regD)
structure LyR (k : Nat) (u : UI) : Prop where
  o : ∃ (dx wa ia ea ka : Addr), At τ H (L.Y k) (.ins a.C_Layout dx (lyF wa ia ea ka)) (9, 1, 0) ∧ SqT K H wa (rgV' u.g) ∧ At τ H ia (.lst ((List.replicate u.g (0 : Int)).map V.int)) (9, 2, 0) ∧ SqT K H ea (rgV' u.ar) ∧ SqT K H ka []
structure EvR : Prop where
  m : ∃ (dx na pa ua : Addr), At τ H L.mo (.ins a.C_Module dx (moF (.ref ua) (.ref na) (.ref pa))) (2, 1, 0) ∧ SqT K H ua ((List.range E.us.length).map fun k => V.ref (L.U k)) ∧ DT K H (.ref na) (.tuple (E.nms.map .str)) ∧ DT K H (.ref pa) (.tuple (E.pls.map plD))
  u : ∀ k u, E.us[k]? = some u → UnR K a τ H L k u
  l : At τ H L.lo (.lst ((List.range E.us.length).map fun k => V.ref (L.Y k))) (9, 0, 0)
  y : ∀ k u, E.us[k]? = some u → LyR K a τ H L k u
structure MRB (S : Ms) : Prop where
  e : ∃ dx, At τ H L.ev (.ins a.C_Events dx (evF L.inl S.tk L.rw)) (5, 1, 0)
  i : At τ H L.inl (.lst (E.inp.map V.int)) (5, 2, 0)
  r : ∃ vs, At τ H L.rw (.lst vs) (5, 3, 0) ∧ DTs K H vs (S.ev.map evD)
  f : ∃ dx, At τ H L.fu (.ins a.C_Fuel dx (fuF S.fu)) (5, 4, 0)
  n : EvR K a τ H E L
structure MRM (M : Addr) (S : Ms) : Prop where
  m : ∃ (dx : Addr) (cur en : V), At τ H M (.ins a.C_Machine dx (mcF L.mo L.lo L.ev L.fu cur en)) (5, 0, 0) ∧ (S.en = none → cur = .ref (L.A (S.st.length - 1)) ∧ en = .non ∧ S.st ≠ []) ∧ ∀ e, S.en = some e → DT K H en (enD E e)
structure MRA (M : Addr) (S : Ms) : Prop where
  m : MRM K a τ H E L M S
  s : StR K a τ H L S.st
  b : MRB K a τ H E L S
end
section
variable {K : PySem.W.Frag} {a : Ad} {τ τ' : Tg} {H H' : Hp} {E : Ev} {L : Ads} {Z : List Nat}
theorem UnR.st {k : Nat} {u : UI} (h : UnR K a τ H L k u) (s : Stp τ τ' Z H H') (n : 2 ∉ Z) (kk : KT K H H') : UnR K a τ' H' L k u := by
  obtain ⟨dx, ca, ra, us, ws, h1, h2, h3, h4, h5⟩ := h.o
  exact ⟨⟨dx, ca, ra, us, ws, h1.st s n, kk _ _ h2, h3.keep kk, kk _ _ h4, h5.keep kk⟩⟩
theorem LyR.st {k : Nat} {u : UI} (h : LyR K a τ H L k u) (s : Stp τ τ' Z H H') (n : 9 ∉ Z) (kk : KT K H H') : LyR K a τ' H' L k u := by
  obtain ⟨dx, wa, ia, ea, ka, h1, h2, h3, h4, h5⟩ := h.o
  exact ⟨⟨dx, wa, ia, ea, ka, h1.st s n, kk _ _ h2, h3.st s n, kk _ _ h4, kk _ _ h5⟩⟩
theorem EvR.st (h : EvR K a τ H E L) (s : Stp τ τ' Z H H') (n : 2 ∉ Z) (n9 : 9 ∉ Z) (kk : KT K H H') : EvR K a τ' H' E L := by
  obtain ⟨dx, na, pa, ua, h1, h2, h3, h4⟩ := h.m
  exact ⟨⟨dx, na, pa, ua, h1.st s n, kk _ _ h2, h3.keep kk, h4.keep kk⟩, fun k u e => (h.u k u e).st s n kk, h.l.st s n9, fun k u e => (h.y k u e).st s n9 kk⟩
theorem AcR.st {j : Nat} {c : Ac} (h : AcR K a τ H L j c) (s : Stp τ τ' Z H H') (n : 6 ∉ Z) (kk : KT K H H') : AcR K a τ' H' L j c := by
  obtain ⟨dx, wa, h1, h2, h3, h4⟩ := h
  exact ⟨dx, wa, h1.st s n, h2.st s n, h3.st s n, kk _ _ h4⟩
theorem StR.st (s : Stp τ τ' Z H H') (n : 6 ∉ Z) (kk : KT K H H') : ∀ {st : List Ac}, StR K a τ H L st → StR K a τ' H' L st
  | [], _ => trivial
  | _ :: _, h => ⟨h.1.st s n kk, h.2.st s n kk⟩
/-- the activation at a place -/
theorem StR.at : ∀ {st : List Ac} {j : Nat} {c : Ac}, StR K a τ H L st → pos st j = some c → AcR K a τ H L j c
  | [], _, _, _, e => by simp [pos] at e
  | d :: t, j, c, h, e => by
    unfold pos at e
    by_cases hj : j < (d :: t).length
    · rw [if_pos hj] at e
      by_cases e2 : j = t.length
      · subst e2
        rw [show (d :: t).length - 1 - t.length = 0 by simp] at e
        obtain rfl := Option.some.inj e
        exact h.1
      · have hj2 : j < t.length := by simp at hj; omega
        refine h.2.at (j := j) ?_
        unfold pos
        rw [if_pos hj2]
        rw [show (d :: t).length - 1 - j = (t.length - 1 - j) + 1 by simp; omega, List.getElem?_cons_succ] at e
        exact e
    · rw [if_neg hj] at e; cases e
/-- a write at a place below -/
theorem AcR.put {i j : Nat} {c : Ac} {q : Addr} {o : HO} {s : Nat} (h : AcR K a τ H L i c) (t : τ q = (6, s, j)) (n : i ≠ j) (kk : KT K H (upd H q o)) : AcR K a τ (upd H q o) L i c := by
  obtain ⟨dx, wa, h1, h2, h3, h4⟩ := h
  have ne : ∀ k, (6, k, i) ≠ (6, s, j) := fun k z => n (by injection z with _ z; injection z)
  exact ⟨dx, wa, h1.put t (ne _), h2.put t (ne _), h3.put t (ne _), kk _ _ h4⟩
theorem StR.put {j : Nat} {q : Addr} {o : HO} {s : Nat} (t : τ q = (6, s, j)) (kk : KT K H (upd H q o)) : ∀ {st : List Ac}, st.length ≤ j → StR K a τ H L st → StR K a τ (upd H q o) L st
  | [], _, _ => trivial
  | _ :: r, hl, h => ⟨h.1.put t (by simp at hl; omega) kk, h.2.put t kk (by simp at hl; omega)⟩
theorem MRB.st {S : Ms} (h : MRB K a τ H E L S) (s : Stp τ τ' Z H H') (n5 : 5 ∉ Z) (n2 : 2 ∉ Z) (n9 : 9 ∉ Z) (kk : KT K H H') : MRB K a τ' H' E L S := by
  obtain ⟨dx, e⟩ := h.e
  obtain ⟨vs, r1, r2⟩ := h.r
  obtain ⟨dy, f⟩ := h.f
  exact ⟨⟨dx, e.st s n5⟩, h.i.st s n5, ⟨vs, r1.st s n5, r2.keep kk⟩, ⟨dy, f.st s n5⟩, h.n.st s n2 n9 kk⟩
theorem EvR.put5 {q : Addr} {o : HO} {x : Nat × Nat} (h : EvR K a τ H E L) (t : τ q = (5, x)) (kk : KT K H (upd H q o)) : EvR K a τ (upd H q o) E L :=
  h.st (Z := [5]) (Stp.refl.put (by rw [t]; simp)) (by simp) (by simp) kk
theorem StR.put5 {st : List Ac} {q : Addr} {o : HO} {x : Nat × Nat} (h : StR K a τ H L st) (t : τ q = (5, x)) (kk : KT K H (upd H q o)) : StR K a τ (upd H q o) L st :=
  h.st (Z := [5]) (Stp.refl.put (by rw [t]; simp)) (by simp) kk
theorem MRB.putM {S : Ms} {q : Addr} {o : HO} (h : MRB K a τ H E L S) (t : τ q = (5, 0, 0)) (kk : KT K H (upd H q o)) : MRB K a τ (upd H q o) E L S := by
  obtain ⟨dx, e⟩ := h.e
  obtain ⟨vs, r1, r2⟩ := h.r
  obtain ⟨dy, f⟩ := h.f
  exact ⟨⟨dx, e.put t (by simp)⟩, h.i.put t (by simp), ⟨vs, r1.put t (by simp), r2.keep kk⟩, ⟨dy, f.put t (by simp)⟩, h.n.put5 t kk⟩
theorem MRB.put6 {S : Ms} {q : Addr} {o : HO} {x : Nat × Nat} (h : MRB K a τ H E L S) (t : τ q = (6, x)) (kk : KT K H (upd H q o)) : MRB K a τ (upd H q o) E L S :=
  h.st (Z := [6]) (Stp.refl.put (by rw [t]; simp)) (by simp) (by simp) (by simp) kk
theorem MRB.nw {S : Ms} {q : Addr} {o : HO} {x : Nat × Nat × Nat} (h : MRB K a τ H E L S) (n : H q = none) : MRB K a (tgN τ q x) (upd H q o) E L S :=
  h.st (Z := []) (Stp.refl.new n) (by simp) (by simp) (by simp) (KT.new n)
theorem StR.nw {st : List Ac} {q : Addr} {o : HO} {x : Nat × Nat × Nat} (h : StR K a τ H L st) (n : H q = none) : StR K a (tgN τ q x) (upd H q o) L st :=
  h.st (Z := []) (Stp.refl.new n) (by simp) (KT.new n)
/-- the words of an activation -/
theorem AcR.setW {j : Nat} {c : Ac} {ws : List Int} (h : AcR K a τ H L j c) (l : ws.length = c.ws.length) : AcR K a τ (upd H (L.W j) (.lst (ws.map V.int))) L j { c with ws := ws } := by
  obtain ⟨dx, wa, h1, h2, h3, h4⟩ := h
  exact ⟨dx, wa, h1.put h2.2 (by simp), .set h2.2, h3.put h2.2 (by simp), by show SqT K _ wa (rgV' ws.length); rw [l]; exact KT.put h2.1 _ _ h4⟩
theorem AcR.setC {j : Nat} {c : Ac} {cs : List Int} (h : AcR K a τ H L j c) : AcR K a τ (upd H (L.C j) (.lst (cs.map V.int))) L j { c with cs := cs } := by
  obtain ⟨dx, wa, h1, h2, h3, h4⟩ := h
  exact ⟨dx, wa, h1.put h3.2 (by simp), h2.put h3.2 (by simp), .set h3.2, KT.put h3.1 _ _ h4⟩
theorem AcR.setI {j : Nat} {c : Ac} {dx wa : Addr} {i : Nat} (h : AcR K a τ H L j c) (e : H (L.A j) = some (.ins a.C_Activation dx (acF c.u (L.U c.u) wa (L.W j) (L.C j) (lkV L.A c.lk) (clV L.A j) (((j + 1 : Nat) : Int)) c.i)))
    : AcR K a τ (upd H (L.A j) (.ins a.C_Activation dx (acF c.u (L.U c.u) wa (L.W j) (L.C j) (lkV L.A c.lk) (clV L.A j) (((j + 1 : Nat) : Int)) i))) L j { c with i := i } := by
  obtain ⟨dx', wa', h1, h2, h3, h4⟩ := h
  have z := h1.1.symm.trans e
  injection z with z; injection z with _ _ z3
  have wz : wa' = wa := by
    have l1 := acF_where (c.u : Int) (L.U c.u) wa' (L.W j) (L.C j) (lkV L.A c.lk) (clV L.A j) (((j + 1 : Nat) : Int)) c.i
    rw [z3, acF_where] at l1
    injection l1 with l1; injection l1 with l1; exact l1.symm
  subst wz
  exact ⟨dx, wa', .set h1.2, h2.put h1.2 (by simp), h3.put h1.2 (by simp), KT.putI h1.1 _ _ h4⟩
theorem AcR.kW {j : Nat} {c : Ac} {o : HO} (h : AcR K a τ H L j c) : KT K H (upd H (L.W j) o) := by
  obtain ⟨dx, wa, h1, h2, h3, h4⟩ := h; exact KT.put h2.1
theorem AcR.kC {j : Nat} {c : Ac} {o : HO} (h : AcR K a τ H L j c) : KT K H (upd H (L.C j) o) := by
  obtain ⟨dx, wa, h1, h2, h3, h4⟩ := h; exact KT.put h3.1
theorem AcR.kA {j : Nat} {c : Ac} {o : HO} (h : AcR K a τ H L j c) : KT K H (upd H (L.A j) o) := by
  obtain ⟨dx, wa, h1, h2, h3, h4⟩ := h; exact KT.putI h1.1
theorem AcR.tA {j : Nat} {c : Ac} (h : AcR K a τ H L j c) : τ (L.A j) = (6, 0, j) := by
  obtain ⟨dx, wa, h1, h2, h3, h4⟩ := h; exact h1.2
theorem AcR.tW {j : Nat} {c : Ac} (h : AcR K a τ H L j c) : τ (L.W j) = (6, 1, j) := by
  obtain ⟨dx, wa, h1, h2, h3, h4⟩ := h; exact h2.2
theorem AcR.tC {j : Nat} {c : Ac} (h : AcR K a τ H L j c) : τ (L.C j) = (6, 2, j) := by
  obtain ⟨dx, wa, h1, h2, h3, h4⟩ := h; exact h3.2
/-- one activation below the top changed -/
theorem StR.chg {j : Nat} {q : Addr} {o : HO} {x : Nat} (t : τ q = (6, x, j)) (kk : KT K H (upd H q o)) {c' : Ac} (hc : AcR K a τ (upd H q o) L j c') : ∀ {st : List Ac}, j < st.length → StR K a τ H L st → StR K a τ (upd H q o) L (setAt st j c')
  | [], hl, _ => by simp at hl
  | d :: r, hl, h => by
    unfold setAt
    by_cases e : j = r.length
    · subst e
      rw [show (d :: r).length - 1 - r.length = 0 by simp]
      exact ⟨hc, h.2.put t kk (Nat.le_refl _)⟩
    · have hl2 : j < r.length := by simp at hl; omega
      rw [show (d :: r).length - 1 - j = (r.length - 1 - j) + 1 by simp; omega, List.set_cons_succ]
      refine ⟨?_, StR.chg t kk hc hl2 h.2⟩
      rw [List.length_set]
      exact h.1.put t (by omega) kk
end

/-! ### activations -/
def spVal (K : PySem.W.Frag) (a : Ad) : Sp := fun vs H Q _ => ∃ (τ : Tg) (L : Ads) (j : Nat) (c : Ac) (v : V) (o : Op), vs = [.ref (L.A j), v] ∧ AcR K a τ H L j c ∧ DT K H v (opD o) ∧ In.OpOk c.ws.length o ∧ Q (.int (c.val o)) H
def spWri (K : PySem.W.Frag) (a : Ad) : Sp := fun vs H Q _ => ∃ (τ : Tg) (L : Ads) (j : Nat) (c : Ac) (d v : Int), vs = [.ref (L.A j), .int d, .int v] ∧ AcR K a τ H L j c ∧ 0 ≤ d ∧ d < c.ws.length ∧ Q .non (upd H (L.W j) (.lst ((c.wr d v).ws.map V.int)))
def spOut (K : PySem.W.Frag) (a : Ad) : Sp := fun vs H Q _ => ∃ (τ : Tg) (L : Ads) (st : List Ac) (h j k : Nat), vs = [.ref (L.A j), .int (h : Int)] ∧ StR K a τ H L st ∧ outw st h j = some k ∧ h ≤ 1000 ∧ Q (.ref (L.A k)) H
section
variable {P : Program} {w : World} {K : PySem.W.Frag} {mg : Str → Option Value} {base : Heap} {a : Ad}
theorem rgV_at {n k : Nat} (h : k < n) : (rgV' n)[k]? = some (V.int (k : Int)) := rng_at (f := fun k => V.int (k : Int)) h
theorem ok_value (T : Txt w K mg a) : FnOk P w K mg base CX0 1 a.f_Activation_value a.d_Activation_value ["self", "operand"] (spVal K a) := by
  refine T.F_Activation_value.ok sc_Activation_value (fun vs H Q E h => ?_) (fun cdv A outer s H vs Q E hr h => ?_)
  · obtain ⟨_, _, _, _, _, _, rfl, _⟩ := h; rfl
  · obtain ⟨τ, L, j, c, v, ⟨sx, n⟩, rfl, ⟨dx, wa, hA, hW, hC, hwa⟩, dv, ho, q⟩ := h
    refine ⟨_, (pss_cons (ps_asg (pv 1) (pg_tup rfl (pgs_cons (pg_name (i := 2) sc_Activation_value.nd rfl (Or.inl rfl)) (pgs_cons (pg_name (i := 3) sc_Activation_value.nd rfl (Or.inl rfl)) pgs_nil))))
      (pss_one (ps_ret (pe_ifExp (pt_cmpR op_eq (pv 2) pe_str (nomark _)) (pv 3) (pe_ix ix_list (pe_fld (pv 0) rfl) (pe_ix ix_tup (pe_fld (pv 0) rfl) (pv 3) (fun _ _ => rfl)) (fun _ _ => rfl)))))), ?_⟩
    obtain ⟨pa, rfl, hs⟩ := DT.op (z := sx) (n := n) dv
    refine ⟨_, rfl, pa, _, rfl, hs, rfl, _, _, rfl, _, _, rfl, rfl, ?_⟩
    refine ⟨_, rfl, rfl, _, rfl, ite3 (fun e => ?_) (fun e => ?_)⟩
    · have e := str_dec e
      have : c.val (sx, n) = n := if_pos e
      rw [this] at q
      exact ⟨_, rfl, q⟩
    · have e := str_dec' e
      have ev : c.val (sx, n) = c.ws.getD n.toNat 0 := if_neg e
      rcases ho with h | ⟨_, n0, n1⟩
      · exact absurd h e
      obtain ⟨m, rfl⟩ := Int.eq_ofNat_of_zero_le n0
      have hm : m < c.ws.length := by have n1 : (m : Int) < c.ws.length := n1; omega
      rw [ev] at q
      exact ⟨_, rfl, L.A j, a.C_Activation, dx, _, _, rfl, hA.1, T.cl_Activation, T.n_Activation_words, acF_words _ _ _ _ _ _ _ _ _, _, rfl, L.A j, a.C_Activation, dx, _, _, rfl, hA.1, T.cl_Activation, T.n_Activation_where, acF_where _ _ _ _ _ _ _ _ _, _, rfl, _, _, _, _, rfl, rfl, hwa, atI_nat (rgV_at hm), _, _, _, _, rfl, rfl, SqL.of hW.1, atI_nat (at_map hm), q⟩
theorem ok_write (T : Txt w K mg a) : FnOk P w K mg base CX0 1 a.f_Activation_write a.d_Activation_write ["self", "number", "word"] (spWri K a) := by
  refine T.F_Activation_write.ok sc_Activation_write (fun vs H Q E h => ?_) (fun cdv A outer s H vs Q E hr h => ?_)
  · obtain ⟨_, _, _, _, _, _, rfl, _⟩ := h; rfl
  · obtain ⟨τ, L, j, c, d, v, rfl, ⟨dx, wa, hA, hW, hC, hwa⟩, d0, d1, q⟩ := h
    obtain ⟨n, rfl⟩ := Int.eq_ofNat_of_zero_le d0
    refine ⟨_, (pss_one (ps_asg (pv 2) (pg_sub (pe_fld (pv 0) rfl) (pe_ix ix_tup (pe_fld (pv 0) rfl) (pv 1) (fun _ _ => rfl)) set_list))), ?_⟩
    refine ⟨_, rfl, _, rfl, L.A j, a.C_Activation, dx, _, _, rfl, hA.1, T.cl_Activation, T.n_Activation_words, acF_words _ _ _ _ _ _ _ _ _, ?_⟩
    have hn : n < c.ws.length := by omega
    refine ⟨_, rfl, L.A j, a.C_Activation, dx, _, _, rfl, hA.1, T.cl_Activation, T.n_Activation_where, acF_where _ _ _ _ _ _ _ _ _, _, rfl, _, _, _, _, rfl, rfl, hwa, atI_nat (rgV_at hn), _, _, _, _, rfl, rfl, hW.1, ixN_nat (by rw [List.length_map]; exact hn), ?_⟩
    rw [set_int]
    exact q
theorem ok_outward (T : Txt w K mg a) : FnOk P w K mg base CX0 1 a.f_Activation_outward a.d_Activation_outward ["self", "hops"] (spOut K a) := by
  refine T.F_Activation_outward.ok sc_Activation_outward (fun vs H Q E h => ?_) (fun cdv A outer s H vs Q E hr h => ?_)
  · obtain ⟨_, _, _, _, _, _, rfl, _⟩ := h; rfl
  · obtain ⟨τ, L, st, h, j, k, rfl, S, e, hh, q⟩ := h
    refine ⟨_, (pss_cons (ps_set (i := 2) sc_Activation_outward.nd rfl (Or.inl rfl) (pv 0))
      (pss_cons (ps_for PassesOwn.never rfl (pi_range1 rfl T.b_range (pa_cons (pv 1) pa_nil)) (pg_name (i := 3) sc_Activation_outward.nd rfl (Or.inl rfl)) (pss_one (ps_set (i := 2) sc_Activation_outward.nd rfl (Or.inl rfl) (pe_fld (pv 2) rfl))))
      (pss_one (ps_ret (pv 2))))), ?_⟩
    refine ⟨_, rfl, _, rfl, _, rfl, by omega, by omega, ?_⟩
    refine for_range (lo := 0) (n := (h : Int).toNat) (fun i σ H' => H = H' ∧ ∃ (m : Nat) (x : Option V), outw st (h - i) m = some k ∧ σ = [some (.ref (L.A j)), some (.int h), some (.ref (L.A m)), x]) ⟨rfl, j, none, e, rfl⟩ ?_ ?_
    · rintro i σ H1 hi ⟨rfl, m, x, e', rfl⟩
      have hi : i < h := by omega
      rw [show h - i = (h - (i + 1)) + 1 by omega] at e'
      unfold outw at e'
      cases ep : pos st m with
      | none => rw [ep] at e'; cases e'
      | some c =>
        rw [ep] at e'
        dsimp only at e'
        cases el : c.lk with
        | none => rw [el] at e'; cases e'
        | some m' =>
          rw [el] at e'
          obtain ⟨dx, wa, hA, hW, hC, hwa⟩ := S.at ep
          rw [el] at hA
          exact ⟨_, rfl, L.A m, a.C_Activation, dx, _, _, rfl, hA.1, T.cl_Activation, T.n_Activation_link, acF_link _ _ _ _ _ _ _ _ _, rfl, m', _, e', rfl⟩
    · rintro σ H1 ⟨rfl, m, x, e', rfl⟩
      have : m = k := by
        rw [show h - (h : Int).toNat = 0 by omega] at e'
        unfold outw at e'
        split at e'
        · exact Option.some.inj e'
        · cases e'
      subst this
      exact ⟨_, rfl, q⟩
end

/-! ### writes at the machine's own things; tuples stay -/
structure GM (K : PySem.W.Frag) (τ τ' : Tg) (H H' : Hp) : Prop where
  s : Stp τ τ' [5, 6] H H'
  k : KT K H H'
namespace GM
variable {K : PySem.W.Frag} {τ τ' τ2 : Tg} {H H' H2 : Hp}
theorem refl : GM K τ τ H H := ⟨Stp.refl, fun _ _ h => h⟩
theorem tr (x : GM K τ τ' H H') (y : GM K τ' τ2 H' H2) : GM K τ τ2 H H2 := ⟨x.s.tr y.s, x.k.tr y.k⟩
theorem new {p : Addr} {o : HO} {x : Nat × Nat × Nat} (h : GM K τ τ' H H') (n : H' p = none) : GM K τ (tgN τ' p x) H (upd H' p o) := ⟨h.s.new n, h.k.tr (KT.new n)⟩
theorem same (s : Same H H') : GM K τ τ H H' := ⟨Stp.same s, KT.same s⟩
theorem put {p : Addr} {o : HO} {ys : List V} {x : Nat × Nat × Nat} (h : GM K τ τ' H H') (m : At τ' H' p (.lst ys) x) (i : x.1 ∈ [5, 6]) : GM K τ τ' H (upd H' p o) := ⟨h.s.put (by rw [m.2]; exact i), h.k.tr (KT.put m.1)⟩
theorem putI {p C d : Addr} {fs : List (Str × V)} {o : HO} {x : Nat × Nat × Nat} (h : GM K τ τ' H H') (m : At τ' H' p (.ins C d fs) x) (i : x.1 ∈ [5, 6]) : GM K τ τ' H (upd H' p o) := ⟨h.s.put (by rw [m.2]; exact i), h.k.tr (KT.putI m.1)⟩
end GM
def RaOk (E : Ev) (n p : Int) : List Ac → Prop
  | [] => (0 ≤ n ∧ n < E.nms.length) ∧ (0 ≤ p ∧ p < E.pls.length)
  | a :: r => match E.reg a with
    | some q => 0 ≤ q.getD 2 0 ∧ (0 ≤ q.getD 3 0 ∧ q.getD 3 0 < a.ws.length) ∧ (0 ≤ q.getD 4 0 ∧ q.getD 4 0 < a.ws.length)
    | none => RaOk E n p r
def EvOk (E : Ev) : Prop := ∀ (k : Nat) (u : UI), E.us[k]? = some u → ∀ r ∈ u.rg, List.length r = 5
def spRai (K : PySem.W.Frag) (a : Ad) : Sp := fun vs H Q _ => ∃ (τ : Tg) (M : Addr) (E : Ev) (L : Ads) (S : Ms) (n p : Int), vs = [.ref M, .int n, .int p] ∧ MRA K a τ H E L M S ∧ S.en = none ∧ EvOk E ∧ (∀ c ∈ S.st, c.u < E.us.length) ∧ RaOk E n p S.st ∧
  ∀ (τ' : Tg) (H' : Hp), MRA K a τ' H' E L M (raiseS E S n p) → GM K τ τ' H H' → Q .non H'
theorem reg5 {E : Ev} (ok : EvOk E) {c : Ac} (hu : c.u < E.us.length) {q : List Int} (e : E.reg c = some q) : ∃ r0 r1 r2 r3 r4, q = [r0, r1, r2, r3, r4] := by
  have m := List.mem_of_find?_eq_some e
  have eu : E.us[c.u]? = some (E.u c.u) := by
    unfold Ev.u
    rw [List.getD_eq_getElem?_getD, List.getElem?_eq_getElem hu]; rfl
  have l := ok c.u _ eu q m
  rcases q with _ | ⟨r0, _ | ⟨r1, _ | ⟨r2, _ | ⟨r3, _ | ⟨r4, _ | ⟨r5, r6⟩⟩⟩⟩⟩⟩
  all_goals first | exact ⟨_, _, _, _, _, rfl⟩ | (simp at l)
theorem Ev.at {E : Ev} {k : Nat} (hu : k < E.us.length) : E.us[k]? = some (E.u k) := by
  unfold Ev.u
  rw [List.getD_eq_getElem?_getD, List.getElem?_eq_getElem hu]; rfl
section
variable {P : Program} {w : World} {K : PySem.W.Frag} {mg : Str → Option Value} {base : Heap} {a : Ad}
theorem okH_write (T : Txt w K mg a) : L2H.FnH P w K mg base CX0 1 a.f_Activation_write a.d_Activation_write ["self", "number", "word"] (spWri K a) := by
  refine T.F_Activation_write.okH sc_Activation_write (fun vs H Q E h => ?_) (fun cdv A outer s H vs Q E p hot hr h => ?_)
  · obtain ⟨_, _, _, _, _, _, rfl, _⟩ := h; rfl
  · obtain ⟨τ, L, j, c, d, v, rfl, ⟨dx, wa, hA, hW, hC, hwa⟩, d0, d1, q⟩ := h
    obtain ⟨n, rfl⟩ := Int.eq_ofNat_of_zero_le d0
    refine ⟨_, (pss_one (ps_asg (pv 2) (pg_sub (pe_fld (pv 0) rfl) (pe_ix ix_tup (pe_fld (pv 0) rfl) (pv 1) (fun _ _ => rfl)) set_list))), ?_⟩
    refine ⟨_, rfl, _, rfl, L.A j, a.C_Activation, dx, _, _, rfl, hA.1, T.cl_Activation, T.n_Activation_words, acF_words _ _ _ _ _ _ _ _ _, ?_⟩
    have hn : n < c.ws.length := by omega
    refine ⟨_, rfl, L.A j, a.C_Activation, dx, _, _, rfl, hA.1, T.cl_Activation, T.n_Activation_where, acF_where _ _ _ _ _ _ _ _ _, _, rfl, _, _, _, _, rfl, rfl, hwa, atI_nat (rgV_at hn), _, _, _, _, rfl, rfl, hW.1, ixN_nat (by rw [List.length_map]; exact hn), ?_⟩
    rw [set_int]
    exact q
theorem ok_region_of (T : Txt w K mg a) : FnOk P w K mg base CX0 1 a.f_region_of a.d_region_of ["unit", "index"] (spRegOf K a.C_Unit) := by
  refine T.F_region_of.ok sc_region_of (fun vs H Q E h => ?_) (fun cdv A outer s H vs Q E hr h => ?_)
  · obtain ⟨_, _, _, _, _, _, _, _, _, _, _, _, rfl, _⟩ := h; rfl
  · obtain ⟨p, dx, v0, v1, v2, v3, v4, v5, ra, xs, rs, ix, rfl, hp, hra, hxs, hrs, q⟩ := h
    have hlx := hxs.len
    refine ⟨_, (pss_cons (ps_for PassesOwn.never rfl (pi_tup (pe_fld (pv 0) rfl)) (pg_name (i := 2) sc_region_of.nd rfl (Or.inl rfl)) (pss_one (ps_if (pt_chain op_le op_lt (pe_ix ix_tup (pv 2) pe_int (fun _ _ => rfl)) (pv 1) (pe_ix ix_tup (pv 2) pe_int (fun _ _ => rfl))) (pss_one (ps_ret (pv 2))) pss_nil)))
      (pss_one (ps_ret pe_non))), ?_⟩
    refine ⟨_, rfl, p, a.C_Unit, dx, _, _, rfl, hp, T.cl_Unit, T.n_Unit_regions, un_rg _ _ _ _ _ _ _, ra, rfl, ⟨_, hra⟩, ?_⟩
    refine for_tup (K := K) (a := ra) (xs := xs) (fun i σ H1 => H1 = H ∧ (∃ o, σ = [some (.ref p), some (.int ix), o]) ∧ (rs.take i).find? (inR ix) = none) ⟨rfl, ⟨_, rfl⟩, rfl⟩ (fun i σ H1 _ h => by rw [h.1]; exact hra) ?_ ?_
    · rintro i x σ H1 hx ⟨rfl, ⟨o, rfl⟩, hn⟩
      obtain ⟨d, ed, dx1⟩ := hxs.at hx
      rw [List.getElem?_map] at ed
      obtain ⟨r, er, rfl⟩ := Option.map_eq_some_iff.mp ed
      have hr2 := hrs r (List.mem_of_getElem? er)
      obtain ⟨pb, ys, rfl, hys, hd2⟩ := dx1.ts
      obtain ⟨u0, e0, k0⟩ := hd2.it 0 (ints_get (r := r) (i := 0) (by omega))
      obtain ⟨u1, e1, k1⟩ := hd2.it 1 (ints_get (r := r) (i := 1) (by omega))
      cases k0.i
      cases k1.i
      have hf : (rs.take (i + 1)).find? (inR ix) = if inR ix r = true then some r else none := by
        rw [List.take_succ, er, List.find?_append, hn]
        cases e : inR ix r <;> simp [e]
      have fd : inR ix r = true → findR rs ix = regD r := fun c => by
        have : rs.find? (inR ix) = some r := by
          rw [if_pos c] at hf
          rw [← List.take_append_drop (i + 1) rs, List.find?_append, hf]
          rfl
        unfold findR
        rw [this]
      refine ⟨_, rfl, _, _, _, _, rfl, rfl, hys, e0, _, rfl, _, _, rfl, rfl, _, rfl, ?_⟩
      cases c0 : decide (r.getD 0 0 ≤ ix) with
      | false =>
        have : inR ix r = false := by unfold inR; rw [c0]; rfl
        refine iteF ⟨_, rfl, iteF ?_⟩
        exact ⟨rfl, ⟨_, rfl⟩, by rw [hf, this]; rfl⟩
      | true =>
        refine iteT ⟨_, rfl, _, _, _, _, rfl, rfl, hys, e1, _, _, rfl, rfl, _, rfl, ?_⟩
        cases c1 : decide (ix < r.getD 1 0) with
        | false =>
          have : inR ix r = false := by unfold inR; rw [c0, c1]; rfl
          exact iteF ⟨rfl, ⟨_, rfl⟩, by rw [hf, this]; rfl⟩
        | true =>
          have : inR ix r = true := by unfold inR; rw [c0, c1]; rfl
          refine iteT ⟨_, rfl, ?_⟩
          exact q _ (by rw [fd this]; exact dx1)
    · rintro σ H1 ⟨rfl, ⟨o, rfl⟩, hn⟩
      rw [hlx, List.length_map, List.take_length] at hn
      refine q _ ?_
      unfold findR
      rw [hn]
      exact .non
theorem okH_region_of (T : Txt w K mg a) : L2H.FnH P w K mg base CX0 1 a.f_region_of a.d_region_of ["unit", "index"] (spRegOf K a.C_Unit) := by
  refine T.F_region_of.okH sc_region_of (fun vs H Q E h => ?_) (fun cdv A outer s H vs Q E p hot hr h => ?_)
  · obtain ⟨_, _, _, _, _, _, _, _, _, _, _, _, rfl, _⟩ := h; rfl
  · obtain ⟨pu, dx, v0, v1, v2, v3, v4, v5, ra, xs, rs, ix, rfl, hp, hra, hxs, hrs, q⟩ := h
    have hlx := hxs.len
    refine ⟨_, (pss_cons (L2H.ps_forH (passes_of rfl) ⟨p, hot, List.mem_singleton.mpr rfl⟩ (My.pi_tupH (pe_fld (pv 0) rfl)) (pg_name (i := 2) sc_region_of.nd rfl (Or.inl rfl)) (pss_one (ps_if (pt_chain op_le op_lt (pe_ix ix_tup (pv 2) pe_int (fun _ _ => rfl)) (pv 1) (pe_ix ix_tup (pv 2) pe_int (fun _ _ => rfl))) (pss_one (ps_ret (pv 2))) pss_nil)))
      (pss_one (ps_ret pe_non))), ?_⟩
    refine ⟨_, rfl, pu, a.C_Unit, dx, _, _, rfl, hp, T.cl_Unit, T.n_Unit_regions, un_rg _ _ _ _ _ _ _, ra, rfl, ⟨_, hra⟩, ?_⟩
    refine for_tup (K := K) (a := ra) (xs := xs) (fun i σ H1 => H1 = H ∧ (∃ o, σ = [some (.ref pu), some (.int ix), o]) ∧ (rs.take i).find? (inR ix) = none) ⟨rfl, ⟨_, rfl⟩, rfl⟩ (fun i σ H1 _ h => by rw [h.1]; exact hra) ?_ ?_
    · rintro i x σ H1 hx ⟨rfl, ⟨o, rfl⟩, hn⟩
      obtain ⟨d, ed, dx1⟩ := hxs.at hx
      rw [List.getElem?_map] at ed
      obtain ⟨r, er, rfl⟩ := Option.map_eq_some_iff.mp ed
      have hr2 := hrs r (List.mem_of_getElem? er)
      obtain ⟨pb, ys, rfl, hys, hd2⟩ := dx1.ts
      obtain ⟨u0, e0, k0⟩ := hd2.it 0 (ints_get (r := r) (i := 0) (by omega))
      obtain ⟨u1, e1, k1⟩ := hd2.it 1 (ints_get (r := r) (i := 1) (by omega))
      cases k0.i
      cases k1.i
      have hf : (rs.take (i + 1)).find? (inR ix) = if inR ix r = true then some r else none := by
        rw [List.take_succ, er, List.find?_append, hn]
        cases e : inR ix r <;> simp [e]
      have fd : inR ix r = true → findR rs ix = regD r := fun c => by
        have : rs.find? (inR ix) = some r := by
          rw [if_pos c] at hf
          rw [← List.take_append_drop (i + 1) rs, List.find?_append, hf]
          rfl
        unfold findR
        rw [this]
      refine ⟨_, rfl, _, _, _, _, rfl, rfl, hys, e0, _, rfl, _, _, rfl, rfl, _, rfl, ?_⟩
      cases c0 : decide (r.getD 0 0 ≤ ix) with
      | false =>
        have : inR ix r = false := by unfold inR; rw [c0]; rfl
        refine iteF ⟨_, rfl, iteF ?_⟩
        exact ⟨rfl, ⟨_, rfl⟩, by rw [hf, this]; rfl⟩
      | true =>
        refine iteT ⟨_, rfl, _, _, _, _, rfl, rfl, hys, e1, _, _, rfl, rfl, _, rfl, ?_⟩
        cases c1 : decide (ix < r.getD 1 0) with
        | false =>
          have : inR ix r = false := by unfold inR; rw [c0, c1]; rfl
          exact iteF ⟨rfl, ⟨_, rfl⟩, by rw [hf, this]; rfl⟩
        | true =>
          have : inR ix r = true := by unfold inR; rw [c0, c1]; rfl
          refine iteT ⟨_, rfl, ?_⟩
          exact q _ (by rw [fd this]; exact dx1)
    · rintro σ H1 ⟨rfl, ⟨o, rfl⟩, hn⟩
      rw [hlx, List.length_map, List.take_length] at hn
      refine q _ ?_
      unfold findR
      rw [hn]
      exact .non
end

/-! ### raise_exception -/
def topV (L : Ads) : List Ac → V
  | [] => .non
  | _ :: t => .ref (L.A t.length)
theorem topV_ne {L : Ads} {st : List Ac} (h : st ≠ []) : topV L st = .ref (L.A (st.length - 1)) := by
  cases st with
  | nil => exact absurd rfl h
  | cons c r => rfl
theorem unw_raise {E : Ev} {S : Ms} {n p : Int} {st : List Ac} (e : unw E n p S.st = some st) : raiseS E S n p = { S with st := st } := by unfold raiseS; rw [e]
theorem unw_none {E : Ev} {S : Ms} {n p : Int} (e : unw E n p S.st = none) : raiseS E S n p = { S with en := some (.rais n p) } := by unfold raiseS; rw [e]
theorem MRB.of {K : PySem.W.Frag} {a : Ad} {τ : Tg} {H : Hp} {E : Ev} {L : Ads} {S S' : Ms} (h : MRB K a τ H E L S) (e1 : S'.tk = S.tk) (e2 : S'.ev = S.ev) (e3 : S'.fu = S.fu) : MRB K a τ H E L S' :=
  ⟨by rw [e1]; exact h.e, h.i, by rw [e2]; exact h.r, by rw [e3]; exact h.f, h.n⟩
theorem Ac.wr_len (c : Ac) (d v : Int) : (c.wr d v).ws.length = c.ws.length := by simp [Ac.wr]
theorem AcR.wrS {K : PySem.W.Frag} {a : Ad} {τ : Tg} {H : Hp} {L : Ads} {j : Nat} {c : Ac} {d v : Int} (h : AcR K a τ H L j c) : AcR K a τ (upd H (L.W j) (.lst ((c.wr d v).ws.map V.int))) L j (c.wr d v) := h.setW (Ac.wr_len c d v)
section
variable {P : Program} {w : World} {K : PySem.W.Frag} {mg : Str → Option Value} {base : Heap} {a : Ad}
theorem ok_raise_exception (T : Txt w K mg a) : FnOk P w K mg base CX0 2 a.f_Machine_raise_exception a.d_Machine_raise_exception ["self", "number", "place"] (spRai K a) := by
  have G_region_of : FnOk P w K mg base CX0 1 _ _ _ _ := ok_region_of T
  have G_Activation_write : FnOk P w K mg base CX0 1 _ _ _ _ := ok_write T
  refine T.F_Machine_raise_exception.ok sc_Machine_raise_exception (fun vs H Q E h => ?_) (fun cdv A outer s H vs Q E hr h => ?_)
  · obtain ⟨_, _, _, _, _, _, _, rfl, _⟩ := h; rfl
  · obtain ⟨τ, M, Ev', L, S, n, pl, rfl, R, hen, ok, hu, ra, q⟩ := h
    refine ⟨_, (pss_cons (ps_set (i := 3) sc_Machine_raise_exception.nd rfl (Or.inl rfl) (pe_fld (pv 0) rfl))
      (pss_cons (ps_while PassesOwn.never (pt_cmpR op_notN (pv 3) pe_non (nomark _)) (pss_cons (ps_set (i := 4) sc_Machine_raise_exception.nd rfl (Or.inl rfl) (pe_call G_region_of (hr.mono (by decide)) rfl T.g_region_of T.k_region_of T.bd_region_of .nil pass0 (pa_cons (pe_fld (pv 3) rfl) (pa_cons (pe_op op_sub (pe_fld (pv 3) rfl) pe_int) pa_nil))))
      (pss_cons (ps_if (pt_cmpR op_notN (pv 4) pe_non (nomark _)) (pss_cons (ps_asg (pv 4) (pg_tup rfl (pgs_cons (pg_name (i := 5) sc_Machine_raise_exception.nd rfl (Or.inl rfl)) (pgs_cons (pg_name (i := 5) sc_Machine_raise_exception.nd rfl (Or.inl rfl)) (pgs_cons (My.pg_fld (pv 3)) (pgs_cons (pg_name (i := 6) sc_Machine_raise_exception.nd rfl (Or.inl rfl)) (pgs_cons (pg_name (i := 7) sc_Machine_raise_exception.nd rfl (Or.inl rfl)) pgs_nil)))))))
      (pss_cons (ps_expr (pe_meth (pv 3) T.cl_Activation T.m_Activation_write G_Activation_write (hr.mono (by decide)) T.bd_Activation_write .nil pass0 (pa_cons (pv 6) (pa_cons (pv 1) pa_nil))))
      (pss_cons (ps_expr (pe_meth (pv 3) T.cl_Activation T.m_Activation_write G_Activation_write (hr.mono (by decide)) T.bd_Activation_write .nil pass0 (pa_cons (pv 7) (pa_cons (pv 2) pa_nil))))
      (pss_cons (ps_fld (pv 0) (pv 3) rfl)
      (pss_one ps_retN))))) pss_nil)
      (pss_one (ps_set (i := 3) sc_Machine_raise_exception.nd rfl (Or.inl rfl) (pe_fld (pv 3) rfl))))))
      (pss_cons (ps_asg (pe_ix ix_tup (pe_fld (pe_fld (pv 0) rfl) rfl) (pv 2) (fun _ _ => rfl)) (pg_tup rfl (pgs_cons (pg_name (i := 8) sc_Machine_raise_exception.nd rfl (Or.inl rfl)) (pgs_cons (pg_name (i := 9) sc_Machine_raise_exception.nd rfl (Or.inl rfl)) pgs_nil))))
      (pss_one (ps_fld (pv 0) (pe_tup (pa_cons pe_str (pa_cons (pe_ix ix_tup (pe_fld (pe_fld (pv 0) rfl) rfl) (pv 1) (fun _ _ => rfl)) (pa_cons (pv 8) (pa_cons (pv 9) pa_nil))))) rfl))))), ?_⟩
    obtain ⟨dm, cur, en, hM, hrun, hend⟩ := R.m.m
    obtain ⟨rfl, rfl, hne⟩ := hrun hen
    refine ⟨_, rfl, M, a.C_Machine, dm, _, _, rfl, hM.1, T.cl_Machine, T.n_Machine_current, mcF_current _ _ _ _ _ _, ?_⟩
    refine ⟨fun m σ H' => H = H' ∧ ∃ (r : List Ac) (o4 o5 o6 o7 : Option V), m = r.length ∧ StR K a τ H L r ∧ (∀ c ∈ r, c.u < Ev'.us.length) ∧ RaOk Ev' n pl r ∧ unw Ev' n pl S.st = unw Ev' n pl r ∧ σ = [some (.ref M), some (.int n), some (.int pl), some (topV L r), o4, o5, o6, o7, none, none], ⟨_, rfl, S.st, _, _, _, _, rfl, R.s, hu, ra, rfl, by rw [topV_ne hne]; rfl⟩, ?_⟩
    rintro m σ H' ⟨rfl, r, o4, o5, o6, o7, rfl, sr, hu2, ra2, eu, rfl⟩
    refine ⟨_, rfl, rfl, _, rfl, ?_⟩
    cases r with
    | nil =>
      refine iteF ?_
      obtain ⟨⟨n0, n1⟩, p0, p1⟩ := ra2
      obtain ⟨n, rfl⟩ := Int.eq_ofNat_of_zero_le n0
      obtain ⟨pl, rfl⟩ := Int.eq_ofNat_of_zero_le p0
      obtain ⟨dmo, na, pa, ua, m1, m2, m3, m4⟩ := R.b.n.m
      obtain ⟨an, xs, e1, hn1, hn2⟩ := m3.ts
      cases e1
      obtain ⟨ap, ys, e1, hp1, hp2⟩ := m4.ts
      cases e1
      have n1 : n < Ev'.nms.length := by omega
      have p1 : pl < Ev'.pls.length := by omega
      obtain ⟨v, ev, dv⟩ := hn2.it n (d := .str (Ev'.nms.getD n "")) (by simp [List.getD, n1])
      obtain ⟨u, eu2, du⟩ := hp2.it pl (d := plD (Ev'.pls.getD pl (0, 0))) (by simp [List.getD, p1])
      cases dv.s
      obtain ⟨az, zs, rfl, hz1, hz2⟩ := du.ts
      obtain rfl := DTs.ints (ns := [(Ev'.pls.getD pl (0, 0)).1, (Ev'.pls.getD pl (0, 0)).2]) hz2
      refine ⟨_, rfl, M, a.C_Machine, dm, _, _, rfl, hM.1, T.cl_Machine, T.n_Machine_module, mcF_module _ _ _ _ _ _, L.mo, a.C_Module, dmo, _, _, rfl, m1.1, T.cl_Module, T.n_Module_places, mo_pl _ _ _, _, rfl, _, _, _, _, rfl, rfl, hp1, eu2, _, _, rfl, hz1, rfl, _, _, rfl, _, _, rfl, rfl, ?_⟩
      refine ⟨_, rfl, M, a.C_Machine, dm, _, _, rfl, hM.1, T.cl_Machine, T.n_Machine_module, mcF_module _ _ _ _ _ _, L.mo, a.C_Module, dmo, _, _, rfl, m1.1, T.cl_Module, T.n_Module_names, mo_na _ _ _, _, rfl, _, _, _, _, rfl, rfl, hn1, ev, _, rfl, _, rfl, (by show 4 ≤ sizeLine; decide), fun p hp => ?_⟩
      have R0 := R.b.nw (x := (0, 0, 0)) (o := .tup [.str "raised", .str (Ev'.nms.getD n ""), .int (Ev'.pls.getD pl (0, 0)).1, .int (Ev'.pls.getD pl (0, 0)).2]) hp
      have S0 := R.s.nw (x := (0, 0, 0)) (o := .tup [.str "raised", .str (Ev'.nms.getD n ""), .int (Ev'.pls.getD pl (0, 0)).1, .int (Ev'.pls.getD pl (0, 0)).2]) hp
      have M0 := hM.new (y := (0, 0, 0)) (u := .tup [.str "raised", .str (Ev'.nms.getD n ""), .int (Ev'.pls.getD pl (0, 0)).1, .int (Ev'.pls.getD pl (0, 0)).2]) hp
      have G0 : GM K τ (tgN τ p (0, 0, 0)) H _ := GM.refl.new (o := .tup [.str "raised", .str (Ev'.nms.getD n ""), .int (Ev'.pls.getD pl (0, 0)).1, .int (Ev'.pls.getD pl (0, 0)).2]) hp
      have D0 : DT K (upd H p (.tup [.str "raised", .str (Ev'.nms.getD n ""), .int (Ev'.pls.getD pl (0, 0)).1, .int (Ev'.pls.getD pl (0, 0)).2])) (.ref p) (enD Ev' (.rais n pl)) := .tup (.inl (.inl upd_same)) (.cons (.str _) (.cons (.str _) (.cons (.int _) (.cons (.int _) .nil))))
      refine ⟨_, rfl, M, a.C_Machine, dm, _, rfl, M0.1, T.cl_Machine, T.n_Machine_ending, (Nat.le_of_ble_eq_true rfl), ?_⟩
      rw [mcF_put_ending]
      refine q _ _ ?_ (G0.putI M0 (by simp))
      rw [unw_none (eu.trans rfl)]
      exact ⟨⟨⟨dm, _, _, .set M0.2, (fun z => nomatch z), fun e z => by injection z with z; subst z; exact D0.keep (KT.putI M0.1)⟩⟩, S0.put5 M0.2 (KT.putI M0.1), (R0.putM M0.2 (KT.putI M0.1)).of rfl rfl rfl⟩
    | cons c r =>
      refine iteT ⟨_, fun _ _ h => h, ?_⟩
      obtain ⟨⟨dx, wa, hA, hW, hC, hwa⟩, hr2⟩ := id sr
      have hc := sr.1
      obtain ⟨dxu, ca, ra', us, ws, h1, h2, h3, h4, h5⟩ := (R.b.n.u c.u _ (Ev.at (hu2 c (by simp)))).o
      refine ⟨_, rfl, _, a.C_Activation, dx, _, _, rfl, hA.1, T.cl_Activation, T.n_Activation_unit, acF_unit _ _ _ _ _ _ _ _ _, _, rfl, _, a.C_Activation, dx, _, _, rfl, hA.1, T.cl_Activation, T.n_Activation_index, acF_index _ _ _ _ _ _ _ _ _, _, _, rfl, rfl, _, dxu, _, _, _, _, _, _, ra', ws, (Ev'.u c.u).rg, (c.i : Int) - 1, rfl, h1.1, h4, h5, fun r m => by rw [ok c.u _ (Ev.at (hu2 c (by simp))) r m]; decide, fun u du => ?_⟩
      have du : DT K H u (match Ev'.reg c with | some r => regD r | none => .none) := du
      refine ⟨_, rfl, rfl, _, rfl, ?_⟩
      cases eq : Ev'.reg c with
      | none =>
        rw [eq] at du
        cases du
        refine iteF ?_
        refine ⟨_, rfl, _, a.C_Activation, dx, _, _, rfl, hA.1, T.cl_Activation, T.n_Activation_caller, acF_caller _ _ _ _ _ _ _ _ _, r.length, by simp, rfl, r, some .non, o5, o6, o7, rfl, hr2, fun c m => hu2 c (by simp [m]), ?_, eu.trans ?_, ?_⟩
        · unfold RaOk at ra2; rw [eq] at ra2; exact ra2
        · show (match Ev'.reg c with | some q => some (c.enter q n pl :: r) | none => unw Ev' n pl r) = _
          rw [eq]
        · have : clV L.A r.length = topV L r := by
            cases r with
            | nil => rfl
            | cons d r => unfold clV; rw [if_neg (by simp)]; rfl
          rw [← this]; rfl
      | some g =>
        rw [eq] at du
        obtain ⟨az, zs, rfl, hz1, hz2⟩ := du.ts
        obtain ⟨r0, r1, r2, r3, r4, rfl⟩ := reg5 ok (hu2 c (by simp)) eq
        obtain rfl := DTs.ints (ns := [r0, r1, r2, r3, r4]) hz2
        unfold RaOk at ra2; rw [eq] at ra2
        obtain ⟨t0, ⟨a0, a1⟩, b0, b1⟩ := ra2
        obtain ⟨t, ht⟩ := Int.eq_ofNat_of_zero_le (show 0 ≤ r2 from t0)
        subst ht
        refine iteT ⟨_, rfl, _, _, rfl, hz1, rfl, _, _, rfl, _, _, rfl, _, _, rfl, _, rfl, L.A r.length, a.C_Activation, dx, _, rfl, hA.1, T.cl_Activation, T.n_Activation_index, (Nat.le_of_ble_eq_true rfl), ?_⟩
        rw [acF_put_index]
        have c1 := hc.setI (i := t) hA.1
        refine ⟨_, _, rfl, _, _, rfl, rfl, ?_⟩
        obtain ⟨dx1, wa1, e1, f2', e3, e4⟩ := id c1
        refine ⟨_, rfl, _, _, _, rfl, e1.1, acF_no_write _ _ _ _ _ _ _ _ _, _, rfl, _, rfl, τ, L, r.length, _, r3, n, rfl, c1, a0, a1, ?_⟩
        have c2 := c1.wrS (d := r3) (v := n)
        obtain ⟨dx2, wa2, f1, f2, f3, f4⟩ := id c2
        refine ⟨_, rfl, _, _, _, rfl, f1.1, acF_no_write _ _ _ _ _ _ _ _ _, _, rfl, _, rfl, τ, L, r.length, _, r4, pl, rfl, c2, b0, by rw [Ac.wr_len]; exact b1, ?_⟩
        have c3 := c2.wrS (d := r4) (v := pl)
        have M1 := ((hM.put (u := .ins a.C_Activation dx (acF c.u (L.U c.u) wa (L.W r.length) (L.C r.length) (lkV L.A c.lk) (clV L.A r.length) (((r.length + 1 : Nat) : Int)) t)) hA.2 (by simp)).put (u := .lst (((Ac.wr { c with i := t } r3 n).ws).map V.int)) c1.tW (by simp)).put (u := .lst (((Ac.wr (Ac.wr { c with i := t } r3 n) r4 pl).ws).map V.int)) c2.tW (by simp)
        have B1 := (((R.b.put6 hA.2 hc.kA).put6 c1.tW c1.kW).put6 c2.tW (c2.kW (o := .lst (((Ac.wr (Ac.wr { c with i := t } r3 n) r4 pl).ws).map V.int))))
        have S1 := ((hr2.put hA.2 hc.kA (Nat.le_refl _)).put c1.tW c1.kW (Nat.le_refl _)).put c2.tW (c2.kW (o := .lst (((Ac.wr (Ac.wr { c with i := t } r3 n) r4 pl).ws).map V.int))) (Nat.le_refl _)
        have S2 : StR K a τ _ L (_ :: r) := ⟨c3, S1⟩
        refine ⟨_, rfl, _, rfl, M, a.C_Machine, dm, _, rfl, M1.1, T.cl_Machine, T.n_Machine_current, (Nat.le_of_ble_eq_true rfl), ?_⟩
        rw [mcF_put_current]
        refine q τ _ ?_ ((((GM.refl.putI hA (by simp)).put f2' (by simp)).put f2 (by simp)).putI M1 (by simp))
        rw [unw_raise (eu.trans (show (match Ev'.reg c with | some q => some (c.enter q n pl :: r) | none => unw Ev' n pl r) = some (c.enter [r0, r1, ↑t, r3, r4] n pl :: r) by rw [eq]))]
        exact ⟨⟨⟨dm, _, _, .set M1.2, fun _ => ⟨rfl, rfl, by simp⟩, fun e z => by rw [show S.en = some e from z] at hen; cases hen⟩⟩, S2.put5 M1.2 (KT.putI M1.1), (B1.putM M1.2 (KT.putI M1.1)).of rfl rfl rfl⟩
theorem okH_raise_exception (T : Txt w K mg a) : L2H.FnH P w K mg base CX0 2 a.f_Machine_raise_exception a.d_Machine_raise_exception ["self", "number", "place"] (spRai K a) := by
  have GH_region_of : L2H.FnH P w K mg base CX0 1 _ _ _ _ := okH_region_of T
  have GH_Activation_write : L2H.FnH P w K mg base CX0 1 _ _ _ _ := okH_write T
  refine T.F_Machine_raise_exception.okH sc_Machine_raise_exception (fun vs H Q E h => ?_) (fun cdv A outer s H vs Q E p hot hr h => ?_)
  · obtain ⟨_, _, _, _, _, _, _, rfl, _⟩ := h; rfl
  · obtain ⟨τ, M, Ev', L, S, n, pl, rfl, R, hen, ok, hu, ra, q⟩ := h
    refine ⟨_, (pss_cons (ps_set (i := 3) sc_Machine_raise_exception.nd rfl (Or.inl rfl) (pe_fld (pv 0) rfl))
      (pss_cons (ps_while (passes_of rfl) (pt_cmpR op_notN (pv 3) pe_non (nomark _)) (pss_cons (ps_set (i := 4) sc_Machine_raise_exception.nd rfl (Or.inl rfl) (L2H.pe_callH GH_region_of (hr.mono (by decide)) ⟨p, hot, List.mem_singleton.mpr rfl⟩ rfl T.g_region_of T.k_region_of T.bd_region_of (passA0 (E := fun _ _ _ _ => False)) (pa_cons (pe_fld (pv 3) rfl) (pa_cons (pe_op op_sub (pe_fld (pv 3) rfl) pe_int) pa_nil))))
      (pss_cons (ps_if (pt_cmpR op_notN (pv 4) pe_non (nomark _)) (pss_cons (ps_asg (pv 4) (My.pg_tupH ⟨p, hot, List.mem_singleton.mpr rfl⟩ (pgs_cons (pg_name (i := 5) sc_Machine_raise_exception.nd rfl (Or.inl rfl)) (pgs_cons (pg_name (i := 5) sc_Machine_raise_exception.nd rfl (Or.inl rfl)) (pgs_cons (My.pg_fld (pv 3)) (pgs_cons (pg_name (i := 6) sc_Machine_raise_exception.nd rfl (Or.inl rfl)) (pgs_cons (pg_name (i := 7) sc_Machine_raise_exception.nd rfl (Or.inl rfl)) pgs_nil)))))))
      (pss_cons (ps_expr (L2H.pe_methH (pv 3) T.cl_Activation T.m_Activation_write GH_Activation_write (hr.mono (by decide)) ⟨p, hot, List.mem_singleton.mpr rfl⟩ T.bd_Activation_write (passA0 (E := fun _ _ _ _ => False)) (pa_cons (pv 6) (pa_cons (pv 1) pa_nil))))
      (pss_cons (ps_expr (L2H.pe_methH (pv 3) T.cl_Activation T.m_Activation_write GH_Activation_write (hr.mono (by decide)) ⟨p, hot, List.mem_singleton.mpr rfl⟩ T.bd_Activation_write (passA0 (E := fun _ _ _ _ => False)) (pa_cons (pv 7) (pa_cons (pv 2) pa_nil))))
      (pss_cons (ps_fld (pv 0) (pv 3) rfl)
      (pss_one ps_retN))))) pss_nil)
      (pss_one (ps_set (i := 3) sc_Machine_raise_exception.nd rfl (Or.inl rfl) (pe_fld (pv 3) rfl))))))
      (pss_cons (ps_asg (pe_ix ix_tup (pe_fld (pe_fld (pv 0) rfl) rfl) (pv 2) (fun _ _ => rfl)) (My.pg_tupH ⟨p, hot, List.mem_singleton.mpr rfl⟩ (pgs_cons (pg_name (i := 8) sc_Machine_raise_exception.nd rfl (Or.inl rfl)) (pgs_cons (pg_name (i := 9) sc_Machine_raise_exception.nd rfl (Or.inl rfl)) pgs_nil))))
      (pss_one (ps_fld (pv 0) (pe_tup (pa_cons pe_str (pa_cons (pe_ix ix_tup (pe_fld (pe_fld (pv 0) rfl) rfl) (pv 1) (fun _ _ => rfl)) (pa_cons (pv 8) (pa_cons (pv 9) pa_nil))))) rfl))))), ?_⟩
    obtain ⟨dm, cur, en, hM, hrun, hend⟩ := R.m.m
    obtain ⟨rfl, rfl, hne⟩ := hrun hen
    refine ⟨_, rfl, M, a.C_Machine, dm, _, _, rfl, hM.1, T.cl_Machine, T.n_Machine_current, mcF_current _ _ _ _ _ _, ?_⟩
    refine ⟨fun m σ H' => H = H' ∧ ∃ (r : List Ac) (o4 o5 o6 o7 : Option V), m = r.length ∧ StR K a τ H L r ∧ (∀ c ∈ r, c.u < Ev'.us.length) ∧ RaOk Ev' n pl r ∧ unw Ev' n pl S.st = unw Ev' n pl r ∧ σ = [some (.ref M), some (.int n), some (.int pl), some (topV L r), o4, o5, o6, o7, none, none], ⟨_, rfl, S.st, _, _, _, _, rfl, R.s, hu, ra, rfl, by rw [topV_ne hne]; rfl⟩, ?_⟩
    rintro m σ H' ⟨rfl, r, o4, o5, o6, o7, rfl, sr, hu2, ra2, eu, rfl⟩
    refine ⟨_, rfl, rfl, _, rfl, ?_⟩
    cases r with
    | nil =>
      refine iteF ?_
      obtain ⟨⟨n0, n1⟩, p0, p1⟩ := ra2
      obtain ⟨n, rfl⟩ := Int.eq_ofNat_of_zero_le n0
      obtain ⟨pl, rfl⟩ := Int.eq_ofNat_of_zero_le p0
      obtain ⟨dmo, na, pa, ua, m1, m2, m3, m4⟩ := R.b.n.m
      obtain ⟨an, xs, e1, hn1, hn2⟩ := m3.ts
      cases e1
      obtain ⟨ap, ys, e1, hp1, hp2⟩ := m4.ts
      cases e1
      have n1 : n < Ev'.nms.length := by omega
      have p1 : pl < Ev'.pls.length := by omega
      obtain ⟨v, ev, dv⟩ := hn2.it n (d := .str (Ev'.nms.getD n "")) (by simp [List.getD, n1])
      obtain ⟨u, eu2, du⟩ := hp2.it pl (d := plD (Ev'.pls.getD pl (0, 0))) (by simp [List.getD, p1])
      cases dv.s
      obtain ⟨az, zs, rfl, hz1, hz2⟩ := du.ts
      obtain rfl := DTs.ints (ns := [(Ev'.pls.getD pl (0, 0)).1, (Ev'.pls.getD pl (0, 0)).2]) hz2
      refine ⟨_, rfl, M, a.C_Machine, dm, _, _, rfl, hM.1, T.cl_Machine, T.n_Machine_module, mcF_module _ _ _ _ _ _, L.mo, a.C_Module, dmo, _, _, rfl, m1.1, T.cl_Module, T.n_Module_places, mo_pl _ _ _, _, rfl, _, _, _, _, rfl, rfl, hp1, eu2, _, _, rfl, hz1, rfl, _, _, rfl, _, _, rfl, rfl, ?_⟩
      refine ⟨_, rfl, M, a.C_Machine, dm, _, _, rfl, hM.1, T.cl_Machine, T.n_Machine_module, mcF_module _ _ _ _ _ _, L.mo, a.C_Module, dmo, _, _, rfl, m1.1, T.cl_Module, T.n_Module_names, mo_na _ _ _, _, rfl, _, _, _, _, rfl, rfl, hn1, ev, _, rfl, _, rfl, (by show 4 ≤ sizeLine; decide), fun p hp => ?_⟩
      have R0 := R.b.nw (x := (0, 0, 0)) (o := .tup [.str "raised", .str (Ev'.nms.getD n ""), .int (Ev'.pls.getD pl (0, 0)).1, .int (Ev'.pls.getD pl (0, 0)).2]) hp
      have S0 := R.s.nw (x := (0, 0, 0)) (o := .tup [.str "raised", .str (Ev'.nms.getD n ""), .int (Ev'.pls.getD pl (0, 0)).1, .int (Ev'.pls.getD pl (0, 0)).2]) hp
      have M0 := hM.new (y := (0, 0, 0)) (u := .tup [.str "raised", .str (Ev'.nms.getD n ""), .int (Ev'.pls.getD pl (0, 0)).1, .int (Ev'.pls.getD pl (0, 0)).2]) hp
      have G0 : GM K τ (tgN τ p (0, 0, 0)) H _ := GM.refl.new (o := .tup [.str "raised", .str (Ev'.nms.getD n ""), .int (Ev'.pls.getD pl (0, 0)).1, .int (Ev'.pls.getD pl (0, 0)).2]) hp
      have D0 : DT K (upd H p (.tup [.str "raised", .str (Ev'.nms.getD n ""), .int (Ev'.pls.getD pl (0, 0)).1, .int (Ev'.pls.getD pl (0, 0)).2])) (.ref p) (enD Ev' (.rais n pl)) := .tup (.inl (.inl upd_same)) (.cons (.str _) (.cons (.str _) (.cons (.int _) (.cons (.int _) .nil))))
      refine ⟨_, rfl, M, a.C_Machine, dm, _, rfl, M0.1, T.cl_Machine, T.n_Machine_ending, (Nat.le_of_ble_eq_true rfl), ?_⟩
      rw [mcF_put_ending]
      refine q _ _ ?_ (G0.putI M0 (by simp))
      rw [unw_none (eu.trans rfl)]
      exact ⟨⟨⟨dm, _, _, .set M0.2, (fun z => nomatch z), fun e z => by injection z with z; subst z; exact D0.keep (KT.putI M0.1)⟩⟩, S0.put5 M0.2 (KT.putI M0.1), (R0.putM M0.2 (KT.putI M0.1)).of rfl rfl rfl⟩
    | cons c r =>
      refine iteT ⟨_, fun _ _ h => h, ?_⟩
      obtain ⟨⟨dx, wa, hA, hW, hC, hwa⟩, hr2⟩ := id sr
      have hc := sr.1
      obtain ⟨dxu, ca, ra', us, ws, h1, h2, h3, h4, h5⟩ := (R.b.n.u c.u _ (Ev.at (hu2 c (by simp)))).o
      refine ⟨_, rfl, _, a.C_Activation, dx, _, _, rfl, hA.1, T.cl_Activation, T.n_Activation_unit, acF_unit _ _ _ _ _ _ _ _ _, _, rfl, _, a.C_Activation, dx, _, _, rfl, hA.1, T.cl_Activation, T.n_Activation_index, acF_index _ _ _ _ _ _ _ _ _, _, _, rfl, rfl, _, dxu, _, _, _, _, _, _, ra', ws, (Ev'.u c.u).rg, (c.i : Int) - 1, rfl, h1.1, h4, h5, fun r m => by rw [ok c.u _ (Ev.at (hu2 c (by simp))) r m]; decide, fun u du => ?_⟩
      have du : DT K H u (match Ev'.reg c with | some r => regD r | none => .none) := du
      refine ⟨_, rfl, rfl, _, rfl, ?_⟩
      cases eq : Ev'.reg c with
      | none =>
        rw [eq] at du
        cases du
        refine iteF ?_
        refine ⟨_, rfl, _, a.C_Activation, dx, _, _, rfl, hA.1, T.cl_Activation, T.n_Activation_caller, acF_caller _ _ _ _ _ _ _ _ _, r.length, by simp, rfl, r, some .non, o5, o6, o7, rfl, hr2, fun c m => hu2 c (by simp [m]), ?_, eu.trans ?_, ?_⟩
        · unfold RaOk at ra2; rw [eq] at ra2; exact ra2
        · show (match Ev'.reg c with | some q => some (c.enter q n pl :: r) | none => unw Ev' n pl r) = _
          rw [eq]
        · have : clV L.A r.length = topV L r := by
            cases r with
            | nil => rfl
            | cons d r => unfold clV; rw [if_neg (by simp)]; rfl
          rw [← this]; rfl
      | some g =>
        rw [eq] at du
        obtain ⟨az, zs, rfl, hz1, hz2⟩ := du.ts
        obtain ⟨r0, r1, r2, r3, r4, rfl⟩ := reg5 ok (hu2 c (by simp)) eq
        obtain rfl := DTs.ints (ns := [r0, r1, r2, r3, r4]) hz2
        unfold RaOk at ra2; rw [eq] at ra2
        obtain ⟨t0, ⟨a0, a1⟩, b0, b1⟩ := ra2
        obtain ⟨t, ht⟩ := Int.eq_ofNat_of_zero_le (show 0 ≤ r2 from t0)
        subst ht
        refine iteT ⟨_, rfl, _, _, rfl, hz1, rfl, _, _, rfl, _, _, rfl, _, _, rfl, _, rfl, L.A r.length, a.C_Activation, dx, _, rfl, hA.1, T.cl_Activation, T.n_Activation_index, (Nat.le_of_ble_eq_true rfl), ?_⟩
        rw [acF_put_index]
        have c1 := hc.setI (i := t) hA.1
        refine ⟨_, _, rfl, _, _, rfl, rfl, ?_⟩
        obtain ⟨dx1, wa1, e1, f2', e3, e4⟩ := id c1
        refine ⟨_, rfl, _, _, _, rfl, e1.1, acF_no_write _ _ _ _ _ _ _ _ _, _, rfl, _, rfl, τ, L, r.length, _, r3, n, rfl, c1, a0, a1, ?_⟩
        have c2 := c1.wrS (d := r3) (v := n)
        obtain ⟨dx2, wa2, f1, f2, f3, f4⟩ := id c2
        refine ⟨_, rfl, _, _, _, rfl, f1.1, acF_no_write _ _ _ _ _ _ _ _ _, _, rfl, _, rfl, τ, L, r.length, _, r4, pl, rfl, c2, b0, by rw [Ac.wr_len]; exact b1, ?_⟩
        have c3 := c2.wrS (d := r4) (v := pl)
        have M1 := ((hM.put (u := .ins a.C_Activation dx (acF c.u (L.U c.u) wa (L.W r.length) (L.C r.length) (lkV L.A c.lk) (clV L.A r.length) (((r.length + 1 : Nat) : Int)) t)) hA.2 (by simp)).put (u := .lst (((Ac.wr { c with i := t } r3 n).ws).map V.int)) c1.tW (by simp)).put (u := .lst (((Ac.wr (Ac.wr { c with i := t } r3 n) r4 pl).ws).map V.int)) c2.tW (by simp)
        have B1 := (((R.b.put6 hA.2 hc.kA).put6 c1.tW c1.kW).put6 c2.tW (c2.kW (o := .lst (((Ac.wr (Ac.wr { c with i := t } r3 n) r4 pl).ws).map V.int))))
        have S1 := ((hr2.put hA.2 hc.kA (Nat.le_refl _)).put c1.tW c1.kW (Nat.le_refl _)).put c2.tW (c2.kW (o := .lst (((Ac.wr (Ac.wr { c with i := t } r3 n) r4 pl).ws).map V.int))) (Nat.le_refl _)
        have S2 : StR K a τ _ L (_ :: r) := ⟨c3, S1⟩
        refine ⟨_, rfl, _, rfl, M, a.C_Machine, dm, _, rfl, M1.1, T.cl_Machine, T.n_Machine_current, (Nat.le_of_ble_eq_true rfl), ?_⟩
        rw [mcF_put_current]
        refine q τ _ ?_ ((((GM.refl.putI hA (by simp)).put f2' (by simp)).put f2 (by simp)).putI M1 (by simp))
        rw [unw_raise (eu.trans (show (match Ev'.reg c with | some q => some (c.enter q n pl :: r) | none => unw Ev' n pl r) = some (c.enter [r0, r1, ↑t, r3, r4] n pl :: r) by rw [eq]))]
        exact ⟨⟨⟨dm, _, _, .set M1.2, fun _ => ⟨rfl, rfl, by simp⟩, fun e z => by rw [show S.en = some e from z] at hen; cases hen⟩⟩, S2.put5 M1.2 (KT.putI M1.1), (B1.putM M1.2 (KT.putI M1.1)).of rfl rfl rfl⟩
end

/-! ### what an action asks -/
def In.OpV (b : Ac) (o : Op) : Prop := In.OpOk b.ws.length o
def WrV (b : Ac) (d : Int) : Prop := 0 ≤ d ∧ d < b.ws.length
/-- b :: r is the stack, the instruction is the one before b's index -/
def ActOk (E : Ev) (S : Ms) (b : Ac) (r : List Ac) : In → Prop
  | .ti => 0 ≤ S.fu
  | .mv d o => WrV b d ∧ In.OpV b o
  | .un k d o p => WrV b d ∧ In.OpV b o ∧ (¬ isW (unF' k (b.val o)) = true → RaOk E 0 p (b :: r))
  | .bi k d x y p => WrV b d ∧ In.OpV b x ∧ In.OpV b y ∧ isW (b.val x) = true ∧ isW (b.val y) = true ∧ (¬ (¬ zer k.val (b.val y) ∧ isW (resC k.val (b.val x) (b.val y)) = true) → RaOk E 0 p (b :: r))
  | .cm _ d x y => WrV b d ∧ In.OpV b x ∧ In.OpV b y ∧ isW (b.val x) = true ∧ isW (b.val y) = true
  | .ck x lo hi p => In.OpV b x ∧ (¬ (lo ≤ b.val x ∧ b.val x ≤ hi) → RaOk E 0 p (b :: r))
  | .ld d h c n e => WrV b d ∧ In.OpV b e ∧ 0 ≤ h ∧ h ≤ 1000 ∧ 0 ≤ c ∧ (0 ≤ b.val e ∧ b.val e < n → ∃ j o, outw (b :: r) h.toNat r.length = some j ∧ pos (b :: r) j = some o ∧ c + b.val e < o.cs.length)
  | .st h c n e x => In.OpV b e ∧ In.OpV b x ∧ 0 ≤ h ∧ h ≤ 1000 ∧ 0 ≤ c ∧ (0 ≤ b.val e ∧ b.val e < n → ∃ j o, outw (b :: r) h.toNat r.length = some j ∧ pos (b :: r) j = some o ∧ c + b.val e < o.cs.length)
  | .jm t => 0 ≤ t
  | .br x t => In.OpV b x ∧ 0 ≤ t
  | .ca o h xs _ p => (∀ x ∈ xs, In.OpV b x) ∧ xs.length ≤ 100 ∧ 0 ≤ o ∧ o < E.us.length ∧ 0 ≤ h ∧ h ≤ 1000 ∧ xs.length = (E.u o.toNat).ar ∧ (E.u o.toNat).ar ≤ (E.u o.toNat).g ∧ (E.u o.toNat).cl ≤ 1000 ∧ (∀ c ∈ b :: r, ∀ m, c.lk = some m → m < r.length + 1) ∧ (if r.length + 1 = 10 then RaOk E 2 p (b :: r) else ∃ j, outw (b :: r) h.toNat r.length = some j)
  | .re xs => (∀ x ∈ xs, In.OpV b x) ∧ xs.length ≤ 100 ∧ (match r with
    | [] => True
    | c :: _ => c.u < E.us.length ∧ 1 ≤ c.i ∧ ∃ o h ys rs p, (E.u c.u).xs[c.i - 1]? = some (.ca o h ys rs p) ∧ rs.length = xs.length ∧ ∀ d ∈ rs, WrV c d)
  | .ra n p => RaOk E n p (b :: r)
  | .ag x y => In.OpV b x ∧ In.OpV b y ∧ ((0 ≤ b.val x ∧ b.val x < E.nms.length) ∧ (0 ≤ b.val y ∧ b.val y < E.pls.length) → RaOk E (b.val x) (b.val y) (b :: r))
  | .pu x => In.OpV b x ∧ S.ev.length < sizeLine
  | .ge d p => WrV b d ∧ S.ev.length < sizeLine ∧ S.tk ≤ E.inp.length ∧ (E.inp[S.tk]? = none → RaOk E 3 p (b :: r))
/-- the places of the old activations stay -/
structure LE (L L' : Ads) (n : Nat) : Prop where
  ev : L'.ev = L.ev
  fu : L'.fu = L.fu
  inl : L'.inl = L.inl
  rw : L'.rw = L.rw
  lo : L'.lo = L.lo
  mo : L'.mo = L.mo
  A : ∀ j, j < n → L'.A j = L.A j
  W : ∀ j, j < n → L'.W j = L.W j
  C : ∀ j, j < n → L'.C j = L.C j
  U : L'.U = L.U
  Y : L'.Y = L.Y
theorem LE.refl {L : Ads} {n : Nat} : LE L L n := ⟨rfl, rfl, rfl, rfl, rfl, rfl, fun _ _ => rfl, fun _ _ => rfl, fun _ _ => rfl, rfl, rfl⟩
/-- an action -/
def spDo (K : PySem.W.Frag) (a : Ad) (p : In → Prop) : Sp := fun vs H Q _ => ∃ (τ : Tg) (M : Addr) (E : Ev) (L : Ads) (S : Ms) (b : Ac) (r : List Ac) (v : V) (i : In), vs = [.ref M, .ref (L.A r.length), v] ∧ p i ∧ DT K H v i.D ∧ MRA K a τ H E L M S ∧ S.en = none ∧ S.st = b :: r ∧ EvOk E ∧ (∀ c ∈ S.st, c.u < E.us.length) ∧ ActOk E S b r i ∧
  ∀ (τ' : Tg) (H' : Hp) (L' : Ads), MRA K a τ' H' E L' M (actB E S b r i) → L'.Y = L.Y → GM K τ τ' H H' → Q .non H'
section
variable {K : PySem.W.Frag} {a : Ad} {τ τ' : Tg} {H H' : Hp} {E : Ev} {L : Ads} {M : Addr} {S : Ms} {b : Ac} {r : List Ac}
theorem MRA.top (R : MRA K a τ H E L M S) (e : S.st = b :: r) : AcR K a τ H L r.length b ∧ StR K a τ H L r := by
  have := R.s
  rw [e] at this
  exact this
theorem MRA.len (e : S.st = b :: r) : S.st.length - 1 = r.length := by rw [e]; rfl
/-- the machine after a write at its top activation -/
theorem MRA.w6 (R : MRA K a τ H E L M S) (en : S.en = none) (e : S.st = b :: r) {q : Addr} {o : HO} {x : Nat} (t : τ q = (6, x, r.length)) (kk : KT K H (upd H q o)) {b' : Ac} (c : AcR K a τ (upd H q o) L r.length b') :
    MRA K a τ (upd H q o) E L M { S with st := b' :: r } := by
  obtain ⟨dm, cur, en', hM, h1, h2⟩ := R.m.m
  obtain ⟨e1, e2, _⟩ := h1 en
  refine ⟨⟨dm, cur, en', hM.put t (by simp), fun _ => ⟨?_, e2, by simp⟩, fun z ez => by rw [show S.en = some z from ez] at en; cases en⟩, ⟨c, (R.top e).2.put t kk (Nat.le_refl _)⟩, (R.b.put6 t kk).of rfl rfl rfl⟩
  rw [e1, MRA.len e]; rfl
theorem MRA.wr (R : MRA K a τ H E L M S) (en : S.en = none) (e : S.st = b :: r) {d v : Int} : MRA K a τ (upd H (L.W r.length) (.lst ((b.wr d v).ws.map V.int))) E L M { S with st := b.wr d v :: r } :=
  R.w6 en e (R.top e).1.tW (R.top e).1.kW (R.top e).1.wrS
/-- the machine's ending is set -/
theorem MRA.setE (R : MRA K a τ H E L M S) {dm : Addr} {cur cur' en : V} (hM : At τ H M (.ins a.C_Machine dm (mcF L.mo L.lo L.ev L.fu cur en)) (5, 0, 0)) {v : V} {z : En} (d : DT K H v (enD E z)) :
    MRA K a τ (upd H M (.ins a.C_Machine dm (mcF L.mo L.lo L.ev L.fu cur' v))) E L M { S with en := some z } := by
  have kk : ∀ o, KT K H (upd H M o) := fun o => KT.putI hM.1
  exact ⟨⟨dm, cur', v, .set hM.2, (fun z => nomatch z), fun e ez => by injection ez with ez; subst ez; exact d.keep (kk _)⟩, R.s.put5 hM.2 (kk _), (R.b.putM hM.2 (kk _)).of rfl rfl rfl⟩
theorem MRA.nw (R : MRA K a τ H E L M S) {q : Addr} {o : HO} {x : Nat × Nat × Nat} (n : H q = none) : MRA K a (tgN τ q x) (upd H q o) E L M S := by
  obtain ⟨dm, cur, en', hM, h1, h2⟩ := R.m.m
  exact ⟨⟨dm, cur, en', hM.new n, h1, fun e z => (h2 e z).keep (KT.new n)⟩, R.s.nw n, R.b.nw n⟩
theorem MRA.sm (R : MRA K a τ H E L M S) (s : Same H H') : MRA K a τ H' E L M S := by
  obtain ⟨dm, cur, en', hM, h1, h2⟩ := R.m.m
  exact ⟨⟨dm, cur, en', hM.same s, h1, fun e z => (h2 e z).keep (KT.same s)⟩, R.s.st (Z := []) (.same s) (by simp) (.same s), R.b.st (Z := []) (.same s) (by simp) (by simp) (by simp) (.same s)⟩
end

/-! ### the simple actions -/
theorem MRA.q0 {K : PySem.W.Frag} {a : Ad} {τ : Tg} {H : Hp} {E : Ev} {L : Ads} {M : Addr} {S : Ms} {b : Ac} {r : List Ac} (R : MRA K a τ H E L M S) (e : S.st = b :: r) : MRA K a τ H E L M { S with st := b :: r } := by
  have : S = { S with st := b :: r } := by cases S; subst e; rfl
  rw [← this]; exact R
theorem MRA.setR {K : PySem.W.Frag} {a : Ad} {τ : Tg} {H : Hp} {E : Ev} {L : Ads} {M : Addr} {S : Ms} {vs ws : List V} {es : List (Bool × Int)} (R : MRA K a τ H E L M S) (hR : At τ H L.rw (.lst vs) (5, 3, 0)) {ds : List PyData} (d : DTs K H ws ds) (e : ds = es.map evD) :
    MRA K a τ (upd H L.rw (.lst ws)) E L M { S with ev := es } := by
  obtain ⟨dm, cur, en', hM, h1, h2⟩ := R.m.m
  obtain ⟨dx, hE⟩ := R.b.e
  obtain ⟨dy, hF⟩ := R.b.f
  have kk : ∀ o, KT K H (upd H L.rw o) := fun o => KT.put hR.1
  exact ⟨⟨dm, cur, en', hM.put hR.2 (by simp), h1, fun e z => (h2 e z).keep (kk _)⟩, R.s.put5 hR.2 (kk _), ⟨⟨dx, hE.put hR.2 (by simp)⟩, R.b.i.put hR.2 (by simp), ⟨ws, .set hR.2, by rw [← e]; exact d.keep (kk _)⟩, ⟨dy, hF.put hR.2 (by simp)⟩, R.b.n.put5 hR.2 (kk _)⟩⟩
theorem rai_go {K : PySem.W.Frag} {a : Ad} {τ : Tg} {H : Hp} {E : Ev} {L : Ads} {M : Addr} {S : Ms} {b : Ac} {r : List Ac} {n p : Int} {Q : VK} {E1 : XK} (R : MRA K a τ H E L M S) (hen : S.en = none) (est : S.st = b :: r) (ok : EvOk E) (hu : ∀ c ∈ S.st, c.u < E.us.length) (ra : RaOk E n p (b :: r))
    (q : ∀ (τ' : Tg) (H' : Hp), MRA K a τ' H' E L M (raiseS E { S with st := b :: r } n p) → GM K τ τ' H H' → Q .non H') : spRai K a [.ref M, .int n, .int p] H Q E1 :=
  ⟨τ, M, E, L, { S with st := b :: r }, n, p, rfl, R.q0 est, hen, ok, fun c m => hu c (by rw [est]; exact m), ra, q⟩
theorem nms_at {K : PySem.W.Frag} {a : Ad} {τ : Tg} {H : Hp} {E : Ev} {L : Ads} (R : EvR K a τ H E L) : ∃ (dx ua na pa : Addr) (xs ys : List V), At τ H L.mo (.ins a.C_Module dx (moF (.ref ua) (.ref na) (.ref pa))) (2, 1, 0) ∧ SqT K H na xs ∧ xs.length = E.nms.length ∧ SqT K H pa ys ∧ ys.length = E.pls.length := by
  obtain ⟨dmo, na, pa, ua, m1, m2, m3, m4⟩ := R.m
  obtain ⟨an, xs, e1, hn1, hn2⟩ := m3.ts
  cases e1
  obtain ⟨ap, ys, e1, hp1, hp2⟩ := m4.ts
  cases e1
  exact ⟨dmo, ua, na, pa, xs, ys, m1, hn1, by rw [hn2.len, List.length_map], hp1, by rw [hp2.len, List.length_map]⟩
section
variable {P : Program} {w : World} {K : PySem.W.Frag} {mg : Str → Option Value} {base : Heap} {a : Ad}
theorem ok_do_move (T : Txt w K mg a) : FnOk P w K mg base CX0 2 a.f_do_move a.d_do_move ["_machine", "activation", "instruction"] (spDo K a (fun i => ∃ d o, i = .mv d o)) := by
  have G_Activation_value : FnOk P w K mg base CX0 1 _ _ _ _ := ok_value T
  have G_Activation_write : FnOk P w K mg base CX0 1 _ _ _ _ := ok_write T
  refine T.F__do_move.ok sc_do_move (fun vs H Q E h => ?_) (fun cdv A outer s H vs Q E hr h => ?_)
  · obtain ⟨_, _, _, _, _, _, _, _, _, rfl, _⟩ := h; rfl
  · obtain ⟨τ, M, Ev', L, S, b, r, v, i, rfl, pi, dv, R, hen, est, ok, hu, ao, q⟩ := h
    refine ⟨_, (pss_cons (ps_asg (pv 2) (pg_tup rfl (pgs_cons (pg_name (i := 3) sc_do_move.nd rfl (Or.inl rfl)) (pgs_cons (pg_name (i := 4) sc_do_move.nd rfl (Or.inl rfl)) (pgs_cons (pg_name (i := 5) sc_do_move.nd rfl (Or.inl rfl)) pgs_nil)))))
      (pss_one (ps_expr (pe_meth (pv 1) T.cl_Activation T.m_Activation_write G_Activation_write (hr.mono (by decide)) T.bd_Activation_write .nil pass0 (pa_cons (pv 4) (pa_cons (pe_meth (pv 1) T.cl_Activation T.m_Activation_value G_Activation_value (hr.mono (by decide)) T.bd_Activation_value .nil pass0 (pa_cons (pv 5) pa_nil)) pa_nil)))))), ?_⟩
    obtain ⟨hb, hr2⟩ := R.top est
    obtain ⟨dx, wa, hA, hW, hC, hwa⟩ := id hb
    obtain ⟨dm, cur, en, hM, hrun, hend⟩ := id R.m.m
    obtain ⟨ecur, een, hne⟩ := hrun hen
    subst een
    obtain ⟨d, o, rfl⟩ := pi
    obtain ⟨wd', ov⟩ := ao
    obtain ⟨pb, xs, rfl, hp1, hp2⟩ := DT.ts dv
    obtain ⟨v0, r0, rfl, d0, hp2⟩ := hp2.un
    obtain ⟨v1, r1, rfl, d1, hp2⟩ := hp2.un
    obtain ⟨v2, r2, rfl, d2, hp2⟩ := hp2.un
    cases hp2.em
    cases d1.i
    refine ⟨_, rfl, _, _, rfl, hp1, rfl, _, _, rfl, _, _, rfl, _, _, rfl, rfl, ?_⟩
    refine ⟨_, rfl, _, _, _, rfl, hA.1, acF_no_write _ _ _ _ _ _ _ _ _, _, rfl, _, rfl, _, _, _, rfl, hA.1, acF_no_value _ _ _ _ _ _ _ _ _, _, rfl, τ, L, r.length, b, v2, o, rfl, hb, d2, ov, τ, L, r.length, b, d, _, rfl, hb, wd'.1, wd'.2, ?_⟩
    exact q τ _ L (R.wr hen est) rfl (GM.refl.put hW (by simp))
theorem ok_do_jump (T : Txt w K mg a) : FnOk P w K mg base CX0 1 a.f_do_jump a.d_do_jump ["_machine", "activation", "instruction"] (spDo K a (fun i => ∃ t, i = .jm t)) := by
  refine T.F__do_jump.ok sc_do_jump (fun vs H Q E h => ?_) (fun cdv A outer s H vs Q E hr h => ?_)
  · obtain ⟨_, _, _, _, _, _, _, _, _, rfl, _⟩ := h; rfl
  · obtain ⟨τ, M, Ev', L, S, b, r, v, i, rfl, pi, dv, R, hen, est, ok, hu, ao, q⟩ := h
    refine ⟨_, (pss_one (ps_fld (pv 1) (pe_ix ix_tup (pv 2) pe_int (fun _ _ => rfl)) rfl)), ?_⟩
    obtain ⟨hb, hr2⟩ := R.top est
    obtain ⟨dx, wa, hA, hW, hC, hwa⟩ := id hb
    obtain ⟨dm, cur, en, hM, hrun, hend⟩ := id R.m.m
    obtain ⟨ecur, een, hne⟩ := hrun hen
    subst een
    obtain ⟨t, rfl⟩ := pi
    obtain ⟨pb, xs, rfl, hp1, hp2⟩ := DT.ts dv
    obtain ⟨v0, r0, rfl, d0, hp2⟩ := hp2.un
    obtain ⟨v1, r1, rfl, d1, hp2⟩ := hp2.un
    cases hp2.em
    cases d1.i
    obtain ⟨t, rfl⟩ := Int.eq_ofNat_of_zero_le (show 0 ≤ t from ao)
    refine ⟨_, rfl, _, _, _, _, rfl, rfl, hp1, rfl, _, rfl, L.A r.length, a.C_Activation, dx, _, rfl, hA.1, T.cl_Activation, T.n_Activation_index, (Nat.le_of_ble_eq_true rfl), ?_⟩
    rw [acF_put_index]
    exact q τ _ L (R.w6 hen est hA.2 hb.kA (hb.setI hA.1)) rfl (GM.refl.putI hA (by simp))
theorem ok_do_branch (T : Txt w K mg a) : FnOk P w K mg base CX0 2 a.f_do_branch a.d_do_branch ["_machine", "activation", "instruction"] (spDo K a (fun i => ∃ x t, i = .br x t)) := by
  have G_Activation_value : FnOk P w K mg base CX0 1 _ _ _ _ := ok_value T
  refine T.F__do_branch.ok sc_do_branch (fun vs H Q E h => ?_) (fun cdv A outer s H vs Q E hr h => ?_)
  · obtain ⟨_, _, _, _, _, _, _, _, _, rfl, _⟩ := h; rfl
  · obtain ⟨τ, M, Ev', L, S, b, r, v, i, rfl, pi, dv, R, hen, est, ok, hu, ao, q⟩ := h
    refine ⟨_, (pss_cons (ps_asg (pv 2) (pg_tup rfl (pgs_cons (pg_name (i := 3) sc_do_branch.nd rfl (Or.inl rfl)) (pgs_cons (pg_name (i := 4) sc_do_branch.nd rfl (Or.inl rfl)) (pgs_cons (pg_name (i := 5) sc_do_branch.nd rfl (Or.inl rfl)) pgs_nil)))))
      (pss_one (ps_if (pt_cmpR op_ne (pe_meth (pv 1) T.cl_Activation T.m_Activation_value G_Activation_value (hr.mono (by decide)) T.bd_Activation_value .nil pass0 (pa_cons (pv 4) pa_nil)) pe_int (nomark _)) (pss_one (ps_fld (pv 1) (pv 5) rfl)) pss_nil))), ?_⟩
    obtain ⟨hb, hr2⟩ := R.top est
    obtain ⟨dx, wa, hA, hW, hC, hwa⟩ := id hb
    obtain ⟨dm, cur, en, hM, hrun, hend⟩ := id R.m.m
    obtain ⟨ecur, een, hne⟩ := hrun hen
    subst een
    obtain ⟨x, t, rfl⟩ := pi
    obtain ⟨ov, t0⟩ := ao
    obtain ⟨pb, xs, rfl, hp1, hp2⟩ := DT.ts dv
    obtain ⟨v0, r0, rfl, d0, hp2⟩ := hp2.un
    obtain ⟨v1, r1, rfl, d1, hp2⟩ := hp2.un
    obtain ⟨v2, r2, rfl, d2, hp2⟩ := hp2.un
    cases hp2.em
    cases d2.i
    obtain ⟨t, rfl⟩ := Int.eq_ofNat_of_zero_le t0
    refine ⟨_, rfl, _, _, rfl, hp1, rfl, _, _, rfl, _, _, rfl, _, _, rfl, rfl, ?_⟩
    refine ⟨_, rfl, _, _, _, rfl, hA.1, acF_no_value _ _ _ _ _ _ _ _ _, _, rfl, τ, L, r.length, b, v1, x, rfl, hb, d1, ov, rfl, _, rfl, ite3 (fun e => ?_) (fun e => ?_)⟩
    · have e : b.val x ≠ 0 := by simpa using e
      refine ⟨_, rfl, _, rfl, L.A r.length, a.C_Activation, dx, _, rfl, hA.1, T.cl_Activation, T.n_Activation_index, (Nat.le_of_ble_eq_true rfl), ?_⟩
      rw [acF_put_index]
      refine q τ _ L ?_ rfl (GM.refl.putI hA (by simp))
      have : actB Ev' S b r (.br x (t : Int)) = { S with st := b.go (t : Int) :: r } := if_pos e
      rw [this]
      exact R.w6 hen est hA.2 hb.kA (hb.setI hA.1)
    · have e : ¬ b.val x ≠ 0 := by simpa using e
      refine q τ _ L ?_ rfl GM.refl
      have : actB Ev' S b r (.br x (t : Int)) = { S with st := b :: r } := if_neg e
      rw [this]
      exact R.q0 est
theorem ok_do_raise (T : Txt w K mg a) : FnOk P w K mg base CX0 3 a.f_do_raise a.d_do_raise ["machine", "_activation", "instruction"] (spDo K a (fun i => ∃ n p, i = .ra n p)) := by
  have G_Machine_raise_exception : FnOk P w K mg base CX0 2 _ _ _ _ := ok_raise_exception T
  refine T.F__do_raise.ok sc_do_raise (fun vs H Q E h => ?_) (fun cdv A outer s H vs Q E hr h => ?_)
  · obtain ⟨_, _, _, _, _, _, _, _, _, rfl, _⟩ := h; rfl
  · obtain ⟨τ, M, Ev', L, S, b, r, v, i, rfl, pi, dv, R, hen, est, ok, hu, ao, q⟩ := h
    refine ⟨_, (pss_cons (ps_asg (pv 2) (pg_tup rfl (pgs_cons (pg_name (i := 3) sc_do_raise.nd rfl (Or.inl rfl)) (pgs_cons (pg_name (i := 4) sc_do_raise.nd rfl (Or.inl rfl)) (pgs_cons (pg_name (i := 5) sc_do_raise.nd rfl (Or.inl rfl)) pgs_nil)))))
      (pss_one (ps_expr (pe_meth (pv 0) T.cl_Machine T.m_Machine_raise_exception G_Machine_raise_exception (hr.mono (by decide)) T.bd_Machine_raise_exception .nil pass0 (pa_cons (pv 4) (pa_cons (pv 5) pa_nil)))))), ?_⟩
    obtain ⟨hb, hr2⟩ := R.top est
    obtain ⟨dx, wa, hA, hW, hC, hwa⟩ := id hb
    obtain ⟨dm, cur, en, hM, hrun, hend⟩ := id R.m.m
    obtain ⟨ecur, een, hne⟩ := hrun hen
    subst een
    obtain ⟨n, p, rfl⟩ := pi
    obtain ⟨pb, xs, rfl, hp1, hp2⟩ := DT.ts dv
    obtain ⟨v0, r0, rfl, d0, hp2⟩ := hp2.un
    obtain ⟨v1, r1, rfl, d1, hp2⟩ := hp2.un
    obtain ⟨v2, r2, rfl, d2, hp2⟩ := hp2.un
    cases hp2.em
    cases d1.i
    cases d2.i
    refine ⟨_, rfl, _, _, rfl, hp1, rfl, _, _, rfl, _, _, rfl, _, _, rfl, rfl, ?_⟩
    exact ⟨_, rfl, _, _, _, rfl, hM.1, mcF_no_raise_exception _ _ _ _ _ _, _, rfl, _, rfl, rai_go (E1 := E0) R hen est ok hu ao fun τ' H' R' G' => q τ' H' L R' rfl G'⟩
theorem ok_do_again (T : Txt w K mg a) : FnOk P w K mg base CX0 3 a.f_do_again a.d_do_again ["machine", "activation", "instruction"] (spDo K a (fun i => ∃ x y, i = .ag x y)) := by
  have G_Activation_value : FnOk P w K mg base CX0 1 _ _ _ _ := ok_value T
  have G_Machine_raise_exception : FnOk P w K mg base CX0 2 _ _ _ _ := ok_raise_exception T
  refine T.F__do_again.ok sc_do_again (fun vs H Q E h => ?_) (fun cdv A outer s H vs Q E hr h => ?_)
  · obtain ⟨_, _, _, _, _, _, _, _, _, rfl, _⟩ := h; rfl
  · obtain ⟨τ, M, Ev', L, S, b, r, v, i, rfl, pi, dv, R, hen, est, ok, hu, ao, q⟩ := h
    refine ⟨_, (pss_cons (ps_set (i := 3) sc_do_again.nd rfl (Or.inl rfl) (pe_meth (pv 1) T.cl_Activation T.m_Activation_value G_Activation_value (hr.mono (by decide)) T.bd_Activation_value .nil pass0 (pa_cons (pe_ix ix_tup (pv 2) pe_int (fun _ _ => rfl)) pa_nil)))
      (pss_cons (ps_set (i := 4) sc_do_again.nd rfl (Or.inl rfl) (pe_meth (pv 1) T.cl_Activation T.m_Activation_value G_Activation_value (hr.mono (by decide)) T.bd_Activation_value .nil pass0 (pa_cons (pe_ix ix_tup (pv 2) pe_int (fun _ _ => rfl)) pa_nil)))
      (pss_one (ps_if (PW.pt (pw_and (pt_chain op_le op_lt pe_int (pv 3) (pe_callB call_len_seq (by rfl) T.b_len (by decide +kernel) (pa_cons (pe_fld (pe_fld (pv 0) rfl) rfl) pa_nil))) (pw_and1 (pt_chain op_le op_lt pe_int (pv 4) (pe_callB call_len_seq (by rfl) T.b_len (by decide +kernel) (pa_cons (pe_fld (pe_fld (pv 0) rfl) rfl) pa_nil)))))) (pss_one (ps_expr (pe_meth (pv 0) T.cl_Machine T.m_Machine_raise_exception G_Machine_raise_exception (hr.mono (by decide)) T.bd_Machine_raise_exception .nil pass0 (pa_cons (pv 3) (pa_cons (pv 4) pa_nil))))) (pss_one (ps_fld (pv 0) (pe_glob (v := .ref a.c_FAULT) rfl T.g_FAULT rfl) rfl)))))), ?_⟩
    obtain ⟨hb, hr2⟩ := R.top est
    obtain ⟨dx, wa, hA, hW, hC, hwa⟩ := id hb
    obtain ⟨dm, cur, en, hM, hrun, hend⟩ := id R.m.m
    obtain ⟨ecur, een, hne⟩ := hrun hen
    subst een
    obtain ⟨x, y, rfl⟩ := pi
    obtain ⟨ov, ow, ra⟩ := ao
    obtain ⟨pb, xs, rfl, hp1, hp2⟩ := DT.ts dv
    obtain ⟨v0, r0, rfl, d0, hp2⟩ := hp2.un
    obtain ⟨v1, r1, rfl, d1, hp2⟩ := hp2.un
    obtain ⟨v2, r2, rfl, d2, hp2⟩ := hp2.un
    cases hp2.em
    refine ⟨_, rfl, _, _, _, rfl, hA.1, acF_no_value _ _ _ _ _ _ _ _ _, _, rfl, _, _, _, _, rfl, rfl, hp1, rfl, τ, L, r.length, b, v1, x, rfl, hb, d1, ov, ?_⟩
    refine ⟨_, rfl, _, _, _, rfl, hA.1, acF_no_value _ _ _ _ _ _ _ _ _, _, rfl, _, _, _, _, rfl, rfl, hp1, rfl, τ, L, r.length, b, v2, y, rfl, hb, d2, ow, ?_⟩
    obtain ⟨dmo, ua, na, pa, ns, ps, m1, hn1, ln, hq1, lp⟩ := nms_at R.b.n
    have flt : ¬ ((0 ≤ b.val x ∧ b.val x < Ev'.nms.length) ∧ (0 ≤ b.val y ∧ b.val y < Ev'.pls.length)) → Q .non (upd H M (.ins a.C_Machine dm (putF "ending" (.ref a.c_FAULT) (mcF L.mo L.lo L.ev L.fu cur .non)))) := fun hn => by
      rw [mcF_put_ending]
      refine q τ _ L ?_ rfl (GM.refl.putI hM (by simp))
      have : actB Ev' S b r (.ag x y) = { S with st := b :: r, en := some .fault } := if_neg hn
      rw [this]
      exact (R.q0 est).setE hM (z := .fault) (.tup (T.q_FAULT H) (.cons (.str _) .nil))
    have flt2 : ¬ ((0 ≤ b.val x ∧ b.val x < Ev'.nms.length) ∧ (0 ≤ b.val y ∧ b.val y < Ev'.pls.length)) → sFld K (tVar 0) (tC (V.ref a.c_FAULT)) "ending" { nx := fun _ H' => Q V.non H', rt := Q } [some (V.ref M), some (V.ref (L.A r.length)), some (V.ref pb), some (V.int (b.val x)), some (V.int (b.val y))] H := fun hn =>
      ⟨_, rfl, M, a.C_Machine, dm, _, rfl, hM.1, T.cl_Machine, T.n_Machine_ending, (Nat.le_of_ble_eq_true rfl), flt hn⟩
    refine ⟨_, rfl, _, _, rfl, rfl, _, rfl, ?_⟩
    cases c0 : decide (0 ≤ b.val x) with
    | false => exact iteF ⟨_, rfl, iteF (iteF (flt2 fun h => by have := of_decide_eq_false c0; omega))⟩
    | true =>
      refine iteT ⟨_, rfl, M, a.C_Machine, dm, _, _, rfl, hM.1, T.cl_Machine, T.n_Machine_module, mcF_module _ _ _ _ _ _, L.mo, a.C_Module, dmo, _, _, rfl, m1.1, T.cl_Module, T.n_Module_names, mo_na _ _ _, _, _, rfl, .inr hn1, _, _, rfl, rfl, _, rfl, ?_⟩
      cases c1 : decide (b.val x < (ns.length : Int)) with
      | false => exact iteF (iteF (flt2 fun h => by have := of_decide_eq_false c1; omega))
      | true =>
        refine iteT ⟨_, rfl, _, _, rfl, rfl, _, rfl, ?_⟩
        cases c2 : decide (0 ≤ b.val y) with
        | false => exact iteF ⟨_, rfl, iteF (flt2 fun h => by have := of_decide_eq_false c2; omega)⟩
        | true =>
          refine iteT ⟨_, rfl, M, a.C_Machine, dm, _, _, rfl, hM.1, T.cl_Machine, T.n_Machine_module, mcF_module _ _ _ _ _ _, L.mo, a.C_Module, dmo, _, _, rfl, m1.1, T.cl_Module, T.n_Module_places, mo_pl _ _ _, _, _, rfl, .inr hq1, _, _, rfl, rfl, _, rfl, ?_⟩
          cases c3 : decide (b.val y < (ps.length : Int)) with
          | false => exact iteF (flt2 fun h => by have := of_decide_eq_false c3; omega)
          | true =>
            have hy : (0 ≤ b.val x ∧ b.val x < Ev'.nms.length) ∧ (0 ≤ b.val y ∧ b.val y < Ev'.pls.length) := by
              have := of_decide_eq_true c0; have := of_decide_eq_true c1; have := of_decide_eq_true c2; have := of_decide_eq_true c3
              omega
            exact iteT ⟨_, rfl, _, _, _, rfl, hM.1, mcF_no_raise_exception _ _ _ _ _ _, _, rfl, _, rfl, rai_go (E1 := E0) R hen est ok hu (ra hy) fun τ' H' R' G' => q τ' H' L (by
              have : actB Ev' S b r (.ag x y) = raiseS Ev' { S with st := b :: r } (b.val x) (b.val y) := if_pos hy
              rw [this]; exact R') rfl G'⟩
theorem ok_do_put (T : Txt w K mg a) : FnOk P w K mg base CX0 2 a.f_do_put a.d_do_put ["machine", "activation", "instruction"] (spDo K a (fun i => ∃ x, i = .pu x)) := by
  have G_Activation_value : FnOk P w K mg base CX0 1 _ _ _ _ := ok_value T
  have G_Events_put : FnOk P w K mg base CX0 1 _ _ _ _ := ok_Events_put T
  refine T.F__do_put.ok sc_do_put (fun vs H Q E h => ?_) (fun cdv A outer s H vs Q E hr h => ?_)
  · obtain ⟨_, _, _, _, _, _, _, _, _, rfl, _⟩ := h; rfl
  · obtain ⟨τ, M, Ev', L, S, b, r, v, i, rfl, pi, dv, R, hen, est, ok, hu, ao, q⟩ := h
    refine ⟨_, (pss_one (ps_expr (pe_meth (pe_fld (pv 0) rfl) T.cl_Events T.m_Events_put G_Events_put (hr.mono (by decide)) T.bd_Events_put .nil pass0 (pa_cons (pe_meth (pv 1) T.cl_Activation T.m_Activation_value G_Activation_value (hr.mono (by decide)) T.bd_Activation_value .nil pass0 (pa_cons (pe_ix ix_tup (pv 2) pe_int (fun _ _ => rfl)) pa_nil)) pa_nil)))), ?_⟩
    obtain ⟨hb, hr2⟩ := R.top est
    obtain ⟨dx, wa, hA, hW, hC, hwa⟩ := id hb
    obtain ⟨dm, cur, en, hM, hrun, hend⟩ := id R.m.m
    obtain ⟨ecur, een, hne⟩ := hrun hen
    subst een
    obtain ⟨x, rfl⟩ := pi
    obtain ⟨ov, hl⟩ := ao
    obtain ⟨pb, xs, rfl, hp1, hp2⟩ := DT.ts dv
    obtain ⟨v0, r0, rfl, d0, hp2⟩ := hp2.un
    obtain ⟨v1, r1, rfl, d1, hp2⟩ := hp2.un
    cases hp2.em
    obtain ⟨dx2, hE⟩ := R.b.e
    obtain ⟨ws, hR, hD⟩ := R.b.r
    refine ⟨_, rfl, M, a.C_Machine, dm, _, _, rfl, hM.1, T.cl_Machine, T.n_Machine_events, mcF_events _ _ _ _ _ _, _, _, _, rfl, hE.1, evF_no_put _ _ _, ?_⟩
    refine ⟨_, rfl, _, _, _, rfl, hA.1, acF_no_value _ _ _ _ _ _ _ _ _, _, rfl, _, _, _, _, rfl, rfl, hp1, rfl, τ, L, r.length, b, v1, x, rfl, hb, d1, ov, ?_⟩
    refine ⟨_, _, _, _, _, _, _, rfl, hE.1, hR.1, by rw [hD.len, List.length_map]; exact hl, fun z nz => ?_⟩
    have R1 := R.nw (x := (0, 0, 0)) (o := .tup [.str "put", .int (b.val x)]) nz
    refine q _ _ L ?_ rfl ((GM.refl.new (x := (0, 0, 0)) nz).put (hR.new nz) (by simp))
    exact (R1.q0 est).setR (hR.new nz) ((hD.keep (KT.new nz)).app (.cons (.tup (.inl (.inl upd_same)) (.cons (.str _) (.cons (.int _) .nil))) .nil)) (by simp [evD])
theorem ok_do_check (T : Txt w K mg a) : FnOk P w K mg base CX0 3 a.f_do_check a.d_do_check ["machine", "activation", "instruction"] (spDo K a (fun i => ∃ x lo hi p, i = .ck x lo hi p)) := by
  have G_Activation_value : FnOk P w K mg base CX0 1 _ _ _ _ := ok_value T
  have G_Machine_raise_exception : FnOk P w K mg base CX0 2 _ _ _ _ := ok_raise_exception T
  refine T.F__do_check.ok sc_do_check (fun vs H Q E h => ?_) (fun cdv A outer s H vs Q E hr h => ?_)
  · obtain ⟨_, _, _, _, _, _, _, _, _, rfl, _⟩ := h; rfl
  · obtain ⟨τ, M, Ev', L, S, b, r, v, i, rfl, pi, dv, R, hen, est, ok, hu, ao, q⟩ := h
    refine ⟨_, (pss_cons (ps_asg (pv 2) (pg_tup rfl (pgs_cons (pg_name (i := 3) sc_do_check.nd rfl (Or.inl rfl)) (pgs_cons (pg_name (i := 4) sc_do_check.nd rfl (Or.inl rfl)) (pgs_cons (pg_name (i := 5) sc_do_check.nd rfl (Or.inl rfl)) (pgs_cons (pg_name (i := 6) sc_do_check.nd rfl (Or.inl rfl)) (pgs_cons (pg_name (i := 7) sc_do_check.nd rfl (Or.inl rfl)) pgs_nil)))))))
      (pss_one (ps_if (pt_not (pt_chain op_le op_le (pv 5) (pe_meth (pv 1) T.cl_Activation T.m_Activation_value G_Activation_value (hr.mono (by decide)) T.bd_Activation_value .nil pass0 (pa_cons (pv 4) pa_nil)) (pv 6))) (pss_one (ps_expr (pe_meth (pv 0) T.cl_Machine T.m_Machine_raise_exception G_Machine_raise_exception (hr.mono (by decide)) T.bd_Machine_raise_exception .nil pass0 (pa_cons (pe_glob (v := .int (0)) rfl T.g_CONSTRAINT ⟨_, rfl⟩) (pa_cons (pv 7) pa_nil))))) pss_nil))), ?_⟩
    obtain ⟨hb, hr2⟩ := R.top est
    obtain ⟨dx, wa, hA, hW, hC, hwa⟩ := id hb
    obtain ⟨dm, cur, en, hM, hrun, hend⟩ := id R.m.m
    obtain ⟨ecur, een, hne⟩ := hrun hen
    subst een
    obtain ⟨x, lo, hi, p, rfl⟩ := pi
    obtain ⟨ov, ra⟩ := ao
    obtain ⟨pb, xs, rfl, hp1, hp2⟩ := DT.ts dv
    obtain ⟨v0, r0, rfl, d0, hp2⟩ := hp2.un
    obtain ⟨v1, r1, rfl, d1, hp2⟩ := hp2.un
    obtain ⟨v2, r2, rfl, d2, hp2⟩ := hp2.un
    obtain ⟨v3, r3, rfl, d3, hp2⟩ := hp2.un
    obtain ⟨v4, r4, rfl, d4, hp2⟩ := hp2.un
    cases hp2.em
    cases d2.i
    cases d3.i
    cases d4.i
    refine ⟨_, rfl, _, _, rfl, hp1, rfl, _, _, rfl, _, _, rfl, _, _, rfl, _, _, rfl, _, _, rfl, rfl, ?_⟩
    have go : ¬ (lo ≤ b.val x ∧ b.val x ≤ hi) → tDrop (tMeth a.C_Machine "raise_exception" (spRai K a) [] E0 (tVar 0) (tCons (tC (V.int 0)) (tCons (tVar 7) tNil))) { nx := fun _ H' => Q V.non H', rt := Q } [some (.ref M), some (.ref (L.A r.length)), some (.ref pb), some v0, some v1, some (.int lo), some (.int hi), some (.int p)] H := fun hn =>
      ⟨_, rfl, _, _, _, rfl, hM.1, mcF_no_raise_exception _ _ _ _ _ _, _, rfl, rai_go (E1 := E0) R hen est ok hu (ra hn) fun τ' H' R' G' => q τ' H' L (by
        have : actB Ev' S b r (.ck x lo hi p) = raiseS Ev' { S with st := b :: r } 0 p := if_neg hn
        rw [this]; exact R') rfl G'⟩
    refine ⟨_, rfl, _, rfl, _, _, _, rfl, hA.1, acF_no_value _ _ _ _ _ _ _ _ _, _, rfl, τ, L, r.length, b, v1, x, rfl, hb, d1, ov, ?_⟩
    refine ⟨_, _, rfl, rfl, _, rfl, ?_⟩
    cases c0 : decide (lo ≤ b.val x) with
    | false => exact iteF ⟨_, rfl, iteT (go fun h => by have := of_decide_eq_false c0; omega)⟩
    | true =>
      refine iteT ⟨_, rfl, _, _, rfl, rfl, _, rfl, ?_⟩
      cases c1 : decide (b.val x ≤ hi) with
      | false => exact iteT (go fun h => by have := of_decide_eq_false c1; omega)
      | true =>
        have hy : lo ≤ b.val x ∧ b.val x ≤ hi := ⟨of_decide_eq_true c0, of_decide_eq_true c1⟩
        refine iteF (q τ _ L ?_ rfl GM.refl)
        have : actB Ev' S b r (.ck x lo hi p) = { S with st := b :: r } := if_pos hy
        rw [this]
        exact R.q0 est
end

/-! ### the actions that try -/
theorem nm_abs : ¬ (nmU true : Str) = "neg" := by decide +kernel
theorem nmBS : ∀ k : _root_.Fin 6, nmB k.val = nmS k.val := by decide +kernel
theorem nmCS : ∀ k : Bool, nmC k = nmS (if k = true then 7 else 6) := by decide +kernel
theorem FnOk.calmN {P : Program} {w : World} {K : PySem.W.Frag} {mg : Str → Option Value} {base : Heap} {k : Nat} {f : Addr} {fd : FuncData} {ps : List Str} {sp : Sp} (F : FnOk P w K mg base (L2N.CX P w) k f fd ps sp) : FnOk P w K mg base CX0 k f fd ps (fun vs H Q _ => sp vs H Q E0) :=
  ⟨fun vs H Q _ q => F.len vs H Q E0 q, fun A outer s H args us vs Q E hr he hb hv hs => codeAny_mono (F.run A outer s H args us vs Q E0 hr he hb hv hs) fun r s' h => by
    match r, h with
    | .ok (.ret u), h => exact h
    | .ok .next, h => exact h.elim
    | .ok .brk, h => exact h.elim
    | .ok .cont, h => exact h.elim
    | .error e, h =>
      obtain ⟨_, _, _, _, _, _, _, _, _, _, _, _, z⟩ := h
      exact z.elim⟩
theorem MRA.setF {K : PySem.W.Frag} {a : Ad} {τ : Tg} {H : Hp} {E : Ev} {L : Ads} {M : Addr} {S : Ms} {u u' : Int} {dy : Addr} (R : MRA K a τ H E L M S) (hF : At τ H L.fu (.ins a.C_Fuel dy (fuF u)) (5, 4, 0)) :
    MRA K a τ (upd H L.fu (.ins a.C_Fuel dy (fuF u'))) E L M { S with fu := u' } := by
  obtain ⟨dm, cur, en', hM, h1, h2⟩ := R.m.m
  obtain ⟨dx, hE⟩ := R.b.e
  obtain ⟨vs, hR, hD⟩ := R.b.r
  have kk : ∀ o, KT K H (upd H L.fu o) := fun o => KT.putI hF.1
  exact ⟨⟨dm, cur, en', hM.put hF.2 (by simp), h1, fun e z => (h2 e z).keep (kk _)⟩, R.s.put5 hF.2 (kk _), ⟨⟨dx, hE.put hF.2 (by simp)⟩, R.b.i.put hF.2 (by simp), ⟨vs, hR.put hF.2 (by simp), hD.keep (kk _)⟩, ⟨dy, .set hF.2⟩, R.b.n.put5 hF.2 (kk _)⟩⟩
theorem MRA.setT {K : PySem.W.Frag} {a : Ad} {τ : Tg} {H : Hp} {E : Ev} {L : Ads} {M : Addr} {S : Ms} {dx : Addr} {t : Int} {n : Nat} (R : MRA K a τ H E L M S) (hE : At τ H L.ev (.ins a.C_Events dx (evF L.inl t L.rw)) (5, 1, 0)) :
    MRA K a τ (upd H L.ev (.ins a.C_Events dx (evF L.inl (n : Int) L.rw))) E L M { S with tk := n } := by
  obtain ⟨dm, cur, en', hM, h1, h2⟩ := R.m.m
  obtain ⟨dy, hF⟩ := R.b.f
  obtain ⟨vs, hR, hD⟩ := R.b.r
  have kk : ∀ o, KT K H (upd H L.ev o) := fun o => KT.putI hE.1
  exact ⟨⟨dm, cur, en', hM.put hE.2 (by simp), h1, fun e z => (h2 e z).keep (kk _)⟩, R.s.put5 hE.2 (kk _), ⟨⟨dx, .set hE.2⟩, R.b.i.put hE.2 (by simp), ⟨vs, hR.put hE.2 (by simp), hD.keep (kk _)⟩, ⟨dy, hF.put hE.2 (by simp)⟩, R.b.n.put5 hE.2 (kk _)⟩⟩
section
variable {P : Program} {w : World} {K : PySem.W.Frag} {mg : Str → Option Value} {base : Heap} {a : Ad}
theorem ok_do_tick (T : Txt w K mg a) : FnOk P w K mg base CX0 4 a.f_do_tick a.d_do_tick ["machine", "_activation", "_instruction"] (spDo K a (fun i => i = .ti)) := by
  have G_Fuel_tick : FnOk P w K mg base (L2N.CX P w) 3 _ _ _ _ := ok_Fuel_tick T
  refine T.F__do_tick.ok sc_do_tick (fun vs H Q E h => ?_) (fun cdv A outer s H vs Q E hr h => ?_)
  · obtain ⟨_, _, _, _, _, _, _, _, _, rfl, _⟩ := h; rfl
  · obtain ⟨τ, M, Ev', L, S, b, r, v, i, rfl, pi, dv, R, hen, est, ok, hu, ao, q⟩ := h
    refine ⟨_, (pss_one (My.ps_try1x rfl rfl ⟨rfl, by decide, Or.inl T.g_OutOfFuel⟩ takes0N (fun W pn xe tk _ => ⟨_, (pss_one (ps_expr (pe_methE0 (pe_fld (pv 0) rfl) T.cl_Fuel T.m_Fuel_tick G_Fuel_tick (hr.mono (by decide)) T.bd_Fuel_tick (fun σ => L2N.passAt tk σ)))), (by first | rfl | (simp only [K_tr, K_su]; rfl))⟩) (fun av oe cls dd pn hz hf => ⟨_, (pss_one (ps_fld (pv 0) (pe_glob (v := .ref a.c_EXHAUSTED) rfl T.g_EXHAUSTED rfl) rfl)), (by first | rfl | (simp only [K_tr, K_su]; rfl))⟩))), ?_⟩
    obtain ⟨hb, hr2⟩ := R.top est
    obtain ⟨dx, wa, hA, hW, hC, hwa⟩ := id hb
    obtain ⟨dm, cur, en, hM, hrun, hend⟩ := id R.m.m
    obtain ⟨ecur, een, hne⟩ := hrun hen
    subst een
    subst pi
    obtain ⟨dy, hF⟩ := R.b.f
    refine ⟨_, rfl, M, a.C_Machine, dm, _, _, rfl, hM.1, T.cl_Machine, T.n_Machine_fuel, mcF_fuel _ _ _ _ _ _, _, _, _, rfl, hF.1, fuF_no_tick _, _, _, _, rfl, hF.1, fun h0 => ?_, fun h0 => ?_⟩
    · refine ⟨true, T.e_OutOfFuel_OutOfFuel, fun _ z nz => ?_, fun z => absurd z (by simp)⟩
      refine ⟨_, rfl, M, a.C_Machine, dm, _, rfl, hM.1, T.cl_Machine, T.n_Machine_ending, (Nat.le_of_ble_eq_true rfl), ?_⟩
      rw [mcF_put_ending]
      refine q τ _ L ?_ rfl (GM.refl.putI hM (by simp))
      have : actB Ev' S b r .ti = { S with st := b :: r, en := some .exh } := if_pos h0
      rw [this]
      exact (R.q0 est).setE hM (z := .exh) (.tup (T.q_EXHAUSTED H) (.cons (.str _) .nil))
    · refine q τ _ L ?_ rfl (GM.refl.putI hF (by simp))
      have : actB Ev' S b r .ti = { S with st := b :: r, fu := S.fu - 1 } := if_neg h0
      rw [this]
      exact (R.q0 est).setF hF
theorem ok_do_get (T : Txt w K mg a) : FnOk P w K mg base CX0 4 a.f_do_get a.d_do_get ["machine", "activation", "instruction"] (spDo K a (fun i => ∃ d p, i = .ge d p)) := by
  have G_Activation_write : FnOk P w K mg base CX0 1 _ _ _ _ := ok_write T
  have GH_Machine_raise_exception : L2H.FnH P w K mg base CX0 2 _ _ _ _ := okH_raise_exception T
  have G_Events_get : FnOk P w K mg base (L2N.CX P w) 3 _ _ _ _ := ok_Events_get T
  refine T.F__do_get.ok sc_do_get (fun vs H Q E h => ?_) (fun cdv A outer s H vs Q E hr h => ?_)
  · obtain ⟨_, _, _, _, _, _, _, _, _, rfl, _⟩ := h; rfl
  · obtain ⟨τ, M, Ev', L, S, b, r, v, i, rfl, pi, dv, R, hen, est, ok, hu, ao, q⟩ := h
    refine ⟨_, (pss_cons (ps_asg (pv 2) (pg_tup rfl (pgs_cons (pg_name (i := 3) sc_do_get.nd rfl (Or.inl rfl)) (pgs_cons (pg_name (i := 4) sc_do_get.nd rfl (Or.inl rfl)) (pgs_cons (pg_name (i := 5) sc_do_get.nd rfl (Or.inl rfl)) pgs_nil)))))
      (pss_cons (My.ps_try1x rfl rfl ⟨rfl, by decide, Or.inl T.g_NoInput⟩ takes0N (fun W pn xe tk _ => ⟨_, (pss_one (ps_set (i := 6) sc_do_get.nd rfl (Or.inl rfl) (pe_methE0 (pe_fld (pv 0) rfl) T.cl_Events T.m_Events_get G_Events_get (hr.mono (by decide)) T.bd_Events_get (fun σ => L2N.passAt tk σ)))), (by first | rfl | (simp only [K_tr, K_su]; rfl))⟩) (fun av oe cls dd pn hz hf => ⟨_, (pss_cons (ps_expr (L2H.pe_methH (pv 0) T.cl_Machine T.m_Machine_raise_exception GH_Machine_raise_exception (roomS hr (by decide)) (hotS hz hf) T.bd_Machine_raise_exception (passA0 (E := fun _ _ _ _ => False)) (pa_cons (pe_glob (v := .int (3)) rfl T.g_END ⟨_, rfl⟩) (pa_cons (pv 5) pa_nil))))
      (pss_one ps_retN)), (by first | rfl | (simp only [K_tr, K_su]; rfl))⟩))
      (pss_one (ps_expr (pe_meth (pv 1) T.cl_Activation T.m_Activation_write G_Activation_write (hr.mono (by decide)) T.bd_Activation_write .nil pass0 (pa_cons (pv 4) (pa_cons (pv 6) pa_nil))))))), ?_⟩
    obtain ⟨hb, hr2⟩ := R.top est
    obtain ⟨dx, wa, hA, hW, hC, hwa⟩ := id hb
    obtain ⟨dm, cur, en, hM, hrun, hend⟩ := id R.m.m
    obtain ⟨ecur, een, hne⟩ := hrun hen
    subst een
    obtain ⟨d, p, rfl⟩ := pi
    obtain ⟨wv, hl, htk, ra⟩ := ao
    obtain ⟨pb, xs, rfl, hp1, hp2⟩ := DT.ts dv
    obtain ⟨v0, r0, rfl, d0, hp2⟩ := hp2.un
    obtain ⟨v1, r1, rfl, d1, hp2⟩ := hp2.un
    obtain ⟨v2, r2, rfl, d2, hp2⟩ := hp2.un
    cases hp2.em
    cases d1.i
    cases d2.i
    obtain ⟨dx2, hE⟩ := R.b.e
    obtain ⟨ws, hR, hD⟩ := R.b.r
    refine ⟨_, rfl, _, _, rfl, hp1, rfl, _, _, rfl, _, _, rfl, _, _, rfl, rfl, ?_⟩
    refine ⟨_, rfl, M, a.C_Machine, dm, _, _, rfl, hM.1, T.cl_Machine, T.n_Machine_events, mcF_events _ _ _ _ _ _, _, _, _, rfl, hE.1, evF_no_get _ _ _, _, _, _, _, _, _, _, rfl, hE.1, R.b.i.1, hR.1, by rw [hD.len, List.length_map]; exact hl, htk, fun e => ?_, fun u eu z nz => ?_⟩
    · have en0 : Ev'.inp[S.tk]? = none := by rw [List.getElem?_eq_none_iff]; omega
      refine ⟨true, T.e_NoInput_NoInput, fun _ z nz => ?_, fun z => absurd z (by simp)⟩
      exact ⟨_, rfl, _, _, _, rfl, hM.1, mcF_no_raise_exception _ _ _ _ _ _, _, rfl, rai_go (E1 := E0) R hen est ok hu (ra en0) fun τ' H' R' G' => q τ' H' L (by
        have : actB Ev' S b r (.ge d p) = raiseS Ev' { S with st := b :: r } 3 p := by
          show (match Ev'.inp[S.tk]? with
            | some v => { S with st := b.wr d v :: r, ev := S.ev ++ [(false, v)], tk := S.tk + 1 }
            | none => raiseS Ev' { S with st := b :: r } 3 p) = _
          rw [en0]
        rw [this]; exact R') rfl G'⟩
    · have kE : ∀ o, KT K H (upd H L.ev o) := fun o => KT.putI hE.1
      have nz1 : upd H L.ev (.ins a.C_Events dx2 (evF L.inl ((S.tk : Int) + 1) L.rw)) z = none := by rw [upd_ne (ne_of_none hE.1 nz).symm]; exact nz
      have R1 : MRA K a τ (upd H L.ev (.ins a.C_Events dx2 (evF L.inl ((S.tk + 1 : Nat) : Int) L.rw))) Ev' L M { S with tk := S.tk + 1 } := R.setT hE
      have hR1 := hR.put (u := .ins a.C_Events dx2 (evF L.inl ((S.tk : Int) + 1) L.rw)) hE.2 (by simp)
      have R2 := R1.nw (x := (0, 0, 0)) (o := .tup [.str "get", .int u]) nz1
      have hR2 := hR1.new (y := (0, 0, 0)) (u := .tup [.str "get", .int u]) nz1
      have R3 := R2.setR (es := S.ev ++ [(false, u)]) hR2 (((hD.keep (kE _)).keep (KT.new nz1)).app (.cons (.tup (.inl (.inl upd_same)) (.cons (.str _) (.cons (.int _) .nil))) .nil)) (by simp [evD])
      have G3 := ((GM.refl.putI (K := K) (o := .ins a.C_Events dx2 (evF L.inl ((S.tk : Int) + 1) L.rw)) hE (by simp)).new (x := (0, 0, 0)) (o := .tup [.str "get", .int u]) nz1).put (o := .lst (ws ++ [.ref z])) hR2 (by simp)
      have hb3 := (R3.top (S := { S with ev := S.ev ++ [(false, u)], tk := S.tk + 1 }) est).1
      obtain ⟨dx3, wa3, hA3, hW3, _, _⟩ := id hb3
      refine ⟨_, rfl, _, _, _, rfl, hA3.1, acF_no_write _ _ _ _ _ _ _ _ _, _, rfl, _, rfl, _, L, r.length, b, d, u, rfl, hb3, wv.1, wv.2, ?_⟩
      refine q _ _ L ?_ rfl (G3.put hW3 (by simp))
      have : actB Ev' S b r (.ge d p) = { S with st := b.wr d u :: r, ev := S.ev ++ [(false, u)], tk := S.tk + 1 } := by
        show (match Ev'.inp[S.tk]? with
          | some v => { S with st := b.wr d v :: r, ev := S.ev ++ [(false, v)], tk := S.tk + 1 }
          | none => raiseS Ev' { S with st := b :: r } 3 p) = _
        rw [eu]
      rw [this]
      exact R3.wr hen est
theorem ok_do_sign (T : Txt w K mg a) : FnOk P w K mg base CX0 4 a.f_do_sign a.d_do_sign ["machine", "activation", "instruction"] (spDo K a (fun i => ∃ k d x p, i = .un k d x p)) := by
  have G_Activation_value : FnOk P w K mg base CX0 1 _ _ _ _ := ok_value T
  have G_Activation_write : FnOk P w K mg base CX0 1 _ _ _ _ := ok_write T
  have GH_Machine_raise_exception : L2H.FnH P w K mg base CX0 2 _ _ _ _ := okH_raise_exception T
  have G_negate : FnOk P w K mg base (L2N.CX P w) 3 _ _ _ _ := ok_negate T
  have G_absolute : FnOk P w K mg base (L2N.CX P w) 3 _ _ _ _ := ok_absolute T
  refine T.F__do_sign.ok sc_do_sign (fun vs H Q E h => ?_) (fun cdv A outer s H vs Q E hr h => ?_)
  · obtain ⟨_, _, _, _, _, _, _, _, _, rfl, _⟩ := h; rfl
  · obtain ⟨τ, M, Ev', L, S, b, r, v, i, rfl, pi, dv, R, hen, est, ok, hu, ao, q⟩ := h
    refine ⟨_, (pss_cons (ps_asg (pv 2) (pg_tup rfl (pgs_cons (pg_name (i := 3) sc_do_sign.nd rfl (Or.inl rfl)) (pgs_cons (pg_name (i := 4) sc_do_sign.nd rfl (Or.inl rfl)) (pgs_cons (pg_name (i := 5) sc_do_sign.nd rfl (Or.inl rfl)) (pgs_cons (pg_name (i := 6) sc_do_sign.nd rfl (Or.inl rfl)) pgs_nil))))))
      (pss_cons (ps_set (i := 7) sc_do_sign.nd rfl (Or.inl rfl) (pe_meth (pv 1) T.cl_Activation T.m_Activation_value G_Activation_value (hr.mono (by decide)) T.bd_Activation_value .nil pass0 (pa_cons (pv 5) pa_nil)))
      (pss_cons (My.ps_try1x rfl rfl ⟨rfl, by decide, Or.inl T.g_Overflow⟩ takes0N (fun W pn xe tk _ => ⟨_, (pss_one (ps_set (i := 8) sc_do_sign.nd rfl (Or.inl rfl) (pe_ifExp (pt_cmpR op_eq (pv 3) pe_str (nomark _)) (pe_callS G_negate (hr.mono (by decide)) rfl T.g_negate T.k_negate T.bd_negate (fun σ => L2N.passAt tk σ) (pa_cons (pv 7) pa_nil)) (pe_callS G_absolute (hr.mono (by decide)) rfl T.g_absolute T.k_absolute T.bd_absolute (fun σ => L2N.passAt tk σ) (pa_cons (pv 7) pa_nil))))), (by first | rfl | (simp only [K_tr, K_su]; rfl))⟩) (fun av oe cls dd pn hz hf => ⟨_, (pss_cons (ps_expr (L2H.pe_methH (pv 0) T.cl_Machine T.m_Machine_raise_exception GH_Machine_raise_exception (roomS hr (by decide)) (hotS hz hf) T.bd_Machine_raise_exception (passA0 (E := fun _ _ _ _ => False)) (pa_cons (pe_glob (v := .int (0)) rfl T.g_CONSTRAINT ⟨_, rfl⟩) (pa_cons (pv 6) pa_nil))))
      (pss_one ps_retN)), (by first | rfl | (simp only [K_tr, K_su]; rfl))⟩))
      (pss_one (ps_expr (pe_meth (pv 1) T.cl_Activation T.m_Activation_write G_Activation_write (hr.mono (by decide)) T.bd_Activation_write .nil pass0 (pa_cons (pv 4) (pa_cons (pv 8) pa_nil)))))))), ?_⟩
    obtain ⟨hb, hr2⟩ := R.top est
    obtain ⟨dx, wa, hA, hW, hC, hwa⟩ := id hb
    obtain ⟨dm, cur, en, hM, hrun, hend⟩ := id R.m.m
    obtain ⟨ecur, een, hne⟩ := hrun hen
    subst een
    obtain ⟨k, d, x, p, rfl⟩ := pi
    obtain ⟨wv, ov, ra⟩ := ao
    obtain ⟨pb, xs, rfl, hp1, hp2⟩ := DT.ts dv
    obtain ⟨v0, r0, rfl, d0, hp2⟩ := hp2.un
    obtain ⟨v1, r1, rfl, d1, hp2⟩ := hp2.un
    obtain ⟨v2, r2, rfl, d2, hp2⟩ := hp2.un
    obtain ⟨v3, r3, rfl, d3, hp2⟩ := hp2.un
    cases hp2.em
    cases d0.s
    cases d1.i
    cases d3.i
    refine ⟨_, rfl, _, _, rfl, hp1, rfl, _, _, rfl, _, _, rfl, _, _, rfl, _, _, rfl, rfl, ?_⟩
    refine ⟨_, rfl, _, _, _, rfl, hA.1, acF_no_value _ _ _ _ _ _ _ _ _, _, rfl, τ, L, r.length, b, v2, x, rfl, hb, d2, ov, ?_⟩
    have gr : ¬ isW (unF' k (b.val x)) = true → spRai K a [.ref M, .int 0, .int p] H (fun _ H' => Q .non H') E0 := fun hn => rai_go R hen est ok hu (ra hn) fun τ' H' R' G' => q τ' H' L (by
      have : actB Ev' S b r (.un k d x p) = raiseS Ev' { S with st := b :: r } 0 p := if_neg hn
      rw [this]; exact R') rfl G'
    have gw : isW (unF' k (b.val x)) = true → spWri K a [.ref (L.A r.length), .int d, .int (unF' k (b.val x))] H (fun _ H' => Q .non H') E0 := fun hy => ⟨τ, L, r.length, b, d, _, rfl, hb, wv.1, wv.2, q τ _ L (by
      have : actB Ev' S b r (.un k d x p) = { S with st := b.wr d (unF' k (b.val x)) :: r } := if_pos hy
      rw [this]; exact R.wr hen est) rfl (GM.refl.put hW (by simp))⟩
    cases k with
    | false =>
      refine ⟨_, rfl, rfl, _, rfl, ite3 (fun e => ?_) (fun e => absurd rfl (str_dec' e))⟩
      exact ⟨_, rfl, b.val x, rfl, fun hy => ⟨_, rfl, _, _, _, rfl, hA.1, acF_no_write _ _ _ _ _ _ _ _ _, _, rfl, _, rfl, gw hy⟩, fun hn => ⟨true, T.e_Overflow_Overflow, fun _ z nz => ⟨_, rfl, _, _, _, rfl, hM.1, mcF_no_raise_exception _ _ _ _ _ _, _, rfl, gr (fun z => by rw [show isW (unF' false (b.val x)) = false from hn] at z; cases z)⟩, fun z => absurd z (by simp)⟩⟩
    | true =>
      refine ⟨_, rfl, rfl, _, rfl, ite3 (fun e => absurd (str_dec e) nm_abs) (fun e => ?_)⟩
      exact ⟨_, rfl, b.val x, rfl, fun hy => ⟨_, rfl, _, _, _, rfl, hA.1, acF_no_write _ _ _ _ _ _ _ _ _, _, rfl, _, rfl, gw hy⟩, fun hn => ⟨true, T.e_Overflow_Overflow, fun _ z nz => ⟨_, rfl, _, _, _, rfl, hM.1, mcF_no_raise_exception _ _ _ _ _ _, _, rfl, gr (fun z => by rw [show isW (unF' true (b.val x)) = false from hn] at z; cases z)⟩, fun z => absurd z (by simp)⟩⟩
theorem ok_do_arithmetic (T : Txt w K mg a) : FnOk P w K mg base CX0 6 a.f_do_arithmetic a.d_do_arithmetic ["machine", "activation", "instruction"] (spDo K a (fun i => ∃ k d x y p, i = .bi k d x y p)) := by
  have G_Activation_value : FnOk P w K mg base CX0 1 _ _ _ _ := ok_value T
  have G_Activation_write : FnOk P w K mg base CX0 1 _ _ _ _ := ok_write T
  have GH_Machine_raise_exception : L2H.FnH P w K mg base CX0 2 _ _ _ _ := okH_raise_exception T
  have G_compute : FnOk P w K mg base (L2N.CX P w) 5 _ _ _ _ := ok_compute T
  refine T.F__do_arithmetic.ok sc_do_arithmetic (fun vs H Q E h => ?_) (fun cdv A outer s H vs Q E hr h => ?_)
  · obtain ⟨_, _, _, _, _, _, _, _, _, rfl, _⟩ := h; rfl
  · obtain ⟨τ, M, Ev', L, S, b, r, v, i, rfl, pi, dv, R, hen, est, ok, hu, ao, q⟩ := h
    refine ⟨_, (pss_cons (ps_asg (pv 2) (pg_tup rfl (pgs_cons (pg_name (i := 3) sc_do_arithmetic.nd rfl (Or.inl rfl)) (pgs_cons (pg_name (i := 4) sc_do_arithmetic.nd rfl (Or.inl rfl)) (pgs_cons (pg_name (i := 5) sc_do_arithmetic.nd rfl (Or.inl rfl)) (pgs_cons (pg_name (i := 6) sc_do_arithmetic.nd rfl (Or.inl rfl)) (pgs_cons (pg_name (i := 7) sc_do_arithmetic.nd rfl (Or.inl rfl)) pgs_nil)))))))
      (pss_cons (My.ps_tryPx rfl rfl ⟨rfl, by decide, Or.inl T.g_Overflow⟩ ⟨rfl, by decide, Or.inl T.g_DivisionByZero⟩ takes0N (fun W pn xe tk _ => ⟨_, (pss_one (ps_set (i := 8) sc_do_arithmetic.nd rfl (Or.inl rfl) (pe_callS G_compute (hr.mono (by decide)) rfl T.g_compute T.k_compute T.bd_compute (fun σ => L2N.passAt tk σ) (pa_cons (pv 3) (pa_cons (pe_meth (pv 1) T.cl_Activation T.m_Activation_value G_Activation_value (hr.mono (by decide)) T.bd_Activation_value .nil pass0 (pa_cons (pv 5) pa_nil)) (pa_cons (pe_meth (pv 1) T.cl_Activation T.m_Activation_value G_Activation_value (hr.mono (by decide)) T.bd_Activation_value .nil pass0 (pa_cons (pv 6) pa_nil)) pa_nil)))))), (by first | rfl | (simp only [K_tr, K_su]; rfl))⟩) (fun av oe cls dd pn hz hf => ⟨_, (pss_cons (ps_expr (L2H.pe_methH (pv 0) T.cl_Machine T.m_Machine_raise_exception GH_Machine_raise_exception (roomS hr (by decide)) (hotS hz hf) T.bd_Machine_raise_exception (passA0 (E := fun _ _ _ _ => False)) (pa_cons (pe_glob (v := .int (0)) rfl T.g_CONSTRAINT ⟨_, rfl⟩) (pa_cons (pv 7) pa_nil))))
      (pss_one ps_retN)), (by first | rfl | (simp only [K_tr, K_su]; rfl))⟩))
      (pss_one (ps_expr (pe_meth (pv 1) T.cl_Activation T.m_Activation_write G_Activation_write (hr.mono (by decide)) T.bd_Activation_write .nil pass0 (pa_cons (pv 4) (pa_cons (pv 8) pa_nil))))))), ?_⟩
    obtain ⟨hb, hr2⟩ := R.top est
    obtain ⟨dx, wa, hA, hW, hC, hwa⟩ := id hb
    obtain ⟨dm, cur, en, hM, hrun, hend⟩ := id R.m.m
    obtain ⟨ecur, een, hne⟩ := hrun hen
    subst een
    obtain ⟨k, d, x, y, p, rfl⟩ := pi
    obtain ⟨wv, ov, ow, w1, w2, ra⟩ := ao
    obtain ⟨pb, xs, rfl, hp1, hp2⟩ := DT.ts dv
    obtain ⟨v0, r0, rfl, d0, hp2⟩ := hp2.un
    obtain ⟨v1, r1, rfl, d1, hp2⟩ := hp2.un
    obtain ⟨v2, r2, rfl, d2, hp2⟩ := hp2.un
    obtain ⟨v3, r3, rfl, d3, hp2⟩ := hp2.un
    obtain ⟨v4, r4, rfl, d4, hp2⟩ := hp2.un
    cases hp2.em
    cases d0.s
    cases d1.i
    cases d4.i
    refine ⟨_, rfl, _, _, rfl, hp1, rfl, _, _, rfl, _, _, rfl, _, _, rfl, _, _, rfl, _, _, rfl, rfl, ?_⟩
    have gr : ∀ H', Same H H' → ¬ (¬ zer k.val (b.val y) ∧ isW (resC k.val (b.val x) (b.val y)) = true) → spRai K a [.ref M, .int 0, .int p] H' (fun _ H' => Q .non H') E0 := fun H' s' hn => rai_go (R.sm s') hen est ok hu (ra hn) fun τ' H' R' G' => q τ' H' L (by
      have : actB Ev' S b r (.bi k d x y p) = raiseS Ev' { S with st := b :: r } 0 p := if_neg hn
      rw [this]; exact R') rfl ((GM.same s').tr G')
    refine ⟨_, rfl, _, rfl, _, _, _, rfl, hA.1, acF_no_value _ _ _ _ _ _ _ _ _, _, rfl, τ, L, r.length, b, v2, x, rfl, hb, d2, ov, _, rfl, _, _, _, rfl, hA.1, acF_no_value _ _ _ _ _ _ _ _ _, _, rfl, τ, L, r.length, b, v3, y, rfl, hb, d3, ow, k.val, b.val x, b.val y, by omega, (by show [V.str (nmB k.val), _, _] = _; rw [nmBS]), wd_of w1, wd_of w2, fun hz H' s' => ?_, fun hz H' s' => ⟨fun hy => ?_, fun hn => ?_⟩⟩
    · exact ⟨false, true, T.e_DivisionByZero_Overflow, T.e_DivisionByZero_DivisionByZero, fun _ z nz => ⟨_, rfl, _, _, _, rfl, s' _ _ hM.1, mcF_no_raise_exception _ _ _ _ _ _, _, rfl, gr H' s' (fun z => z.1 hz)⟩, fun z => absurd z (by simp)⟩
    · refine ⟨_, rfl, _, _, _, rfl, s' _ _ hA.1, acF_no_write _ _ _ _ _ _ _ _ _, _, rfl, _, rfl, ?_⟩
      have hb' := ((R.sm s').top est).1
      refine ⟨τ, L, r.length, b, d, _, rfl, hb', wv.1, wv.2, q τ _ L (by
        have : actB Ev' S b r (.bi k d x y p) = { S with st := b.wr d (resC k.val (b.val x) (b.val y)) :: r } := if_pos ⟨hz, hy⟩
        rw [this]; exact (R.sm s').wr hen est) rfl ((GM.same s').put (hW.same s') (by simp))⟩
    · exact ⟨true, false, T.e_Overflow_Overflow, T.e_Overflow_DivisionByZero, fun _ z nz => ⟨_, rfl, _, _, _, rfl, s' _ _ hM.1, mcF_no_raise_exception _ _ _ _ _ _, _, rfl, gr H' s' (fun z => by rw [hn] at z; exact absurd z.2 (by simp))⟩, fun z => absurd z (by simp)⟩
theorem ok_do_compare (T : Txt w K mg a) : FnOk P w K mg base CX0 6 a.f_do_compare a.d_do_compare ["_machine", "activation", "instruction"] (spDo K a (fun i => ∃ k d x y, i = .cm k d x y)) := by
  have G_Activation_value : FnOk P w K mg base CX0 1 _ _ _ _ := ok_value T
  have G_Activation_write : FnOk P w K mg base CX0 1 _ _ _ _ := ok_write T
  have G_compute : FnOk P w K mg base CX0 5 _ _ _ _ := FnOk.calmN (ok_compute T)
  refine T.F__do_compare.ok sc_do_compare (fun vs H Q E h => ?_) (fun cdv A outer s H vs Q E hr h => ?_)
  · obtain ⟨_, _, _, _, _, _, _, _, _, rfl, _⟩ := h; rfl
  · obtain ⟨τ, M, Ev', L, S, b, r, v, i, rfl, pi, dv, R, hen, est, ok, hu, ao, q⟩ := h
    refine ⟨_, (pss_cons (ps_asg (pv 2) (pg_tup rfl (pgs_cons (pg_name (i := 3) sc_do_compare.nd rfl (Or.inl rfl)) (pgs_cons (pg_name (i := 4) sc_do_compare.nd rfl (Or.inl rfl)) (pgs_cons (pg_name (i := 5) sc_do_compare.nd rfl (Or.inl rfl)) (pgs_cons (pg_name (i := 6) sc_do_compare.nd rfl (Or.inl rfl)) pgs_nil))))))
      (pss_one (ps_expr (pe_meth (pv 1) T.cl_Activation T.m_Activation_write G_Activation_write (hr.mono (by decide)) T.bd_Activation_write .nil pass0 (pa_cons (pv 4) (pa_cons (pe_call G_compute (hr.mono (by decide)) rfl T.g_compute T.k_compute T.bd_compute .nil pass0 (pa_cons (pv 3) (pa_cons (pe_meth (pv 1) T.cl_Activation T.m_Activation_value G_Activation_value (hr.mono (by decide)) T.bd_Activation_value .nil pass0 (pa_cons (pv 5) pa_nil)) (pa_cons (pe_meth (pv 1) T.cl_Activation T.m_Activation_value G_Activation_value (hr.mono (by decide)) T.bd_Activation_value .nil pass0 (pa_cons (pv 6) pa_nil)) pa_nil)))) pa_nil)))))), ?_⟩
    obtain ⟨hb, hr2⟩ := R.top est
    obtain ⟨dx, wa, hA, hW, hC, hwa⟩ := id hb
    obtain ⟨dm, cur, en, hM, hrun, hend⟩ := id R.m.m
    obtain ⟨ecur, een, hne⟩ := hrun hen
    subst een
    obtain ⟨k, d, x, y, rfl⟩ := pi
    obtain ⟨wv, ov, ow, w1, w2⟩ := ao
    obtain ⟨pb, xs, rfl, hp1, hp2⟩ := DT.ts dv
    obtain ⟨v0, r0, rfl, d0, hp2⟩ := hp2.un
    obtain ⟨v1, r1, rfl, d1, hp2⟩ := hp2.un
    obtain ⟨v2, r2, rfl, d2, hp2⟩ := hp2.un
    obtain ⟨v3, r3, rfl, d3, hp2⟩ := hp2.un
    cases hp2.em
    cases d0.s
    cases d1.i
    refine ⟨_, rfl, _, _, rfl, hp1, rfl, _, _, rfl, _, _, rfl, _, _, rfl, _, _, rfl, rfl, ?_⟩
    have hk : ¬ zer (if k = true then 7 else 6) (b.val y) := by unfold zer; cases k <;> simp
    have hw : isW (resC (if k = true then 7 else 6) (b.val x) (b.val y)) = true := by
      cases k with
      | false => show isW (if b.val x < b.val y then (1 : Int) else 0) = true; split <;> decide
      | true => show isW (if b.val x = b.val y then (1 : Int) else 0) = true; split <;> decide
    refine ⟨_, rfl, _, _, _, rfl, hA.1, acF_no_write _ _ _ _ _ _ _ _ _, _, rfl, _, rfl, _, rfl, _, _, _, rfl, hA.1, acF_no_value _ _ _ _ _ _ _ _ _, _, rfl, τ, L, r.length, b, v2, x, rfl, hb, d2, ov, _, rfl, _, _, _, rfl, hA.1, acF_no_value _ _ _ _ _ _ _ _ _, _, rfl, τ, L, r.length, b, v3, y, rfl, hb, d3, ow, (if k = true then 7 else 6), b.val x, b.val y, (by cases k <;> simp), (by show [V.str (nmC k), _, _] = _; rw [nmCS]), wd_of w1, wd_of w2, fun hz => absurd hz hk, fun hz H' s' => ⟨fun hy => ?_, fun hn => by rw [hw] at hn; cases hn⟩⟩
    have hb' := ((R.sm s').top est).1
    exact ⟨τ, L, r.length, b, d, _, rfl, hb', wv.1, wv.2, q τ _ L ((R.sm s').wr hen est) rfl ((GM.same s').put (hW.same s') (by simp))⟩
end

/-! ### load and store; links -/
theorem pos_lt {st : List Ac} {j : Nat} {c : Ac} (h : pos st j = some c) : j < st.length := by
  unfold pos at h
  by_cases hj : j < st.length
  · exact hj
  · rw [if_neg hj] at h; cases h
theorem setAt_len (st : List Ac) (j : Nat) (c : Ac) : (setAt st j c).length = st.length := by unfold setAt; simp
theorem MRA.chg {K : PySem.W.Frag} {a : Ad} {τ : Tg} {H : Hp} {E : Ev} {L : Ads} {M : Addr} {S : Ms} {b o : Ac} {r : List Ac} {j : Nat} {cs : List Int} (R : MRA K a τ H E L M S) (en : S.en = none) (e : S.st = b :: r) (ho : pos (b :: r) j = some o) :
    MRA K a τ (upd H (L.C j) (.lst (cs.map V.int))) E L M { S with st := setAt (b :: r) j { o with cs := cs } } := by
  have sr := R.s
  rw [e] at sr
  have hc := sr.at ho
  obtain ⟨dm, cur, en', hM, h1, h2⟩ := R.m.m
  obtain ⟨e1, e2, _⟩ := h1 en
  have ne : setAt (b :: r) j { o with cs := cs } ≠ [] := fun z => by
    have := setAt_len (b :: r) j { o with cs := cs }
    rw [z] at this
    simp at this
  refine ⟨⟨dm, cur, en', hM.put hc.tC (by simp), fun _ => ⟨?_, e2, ne⟩, fun z ez => by rw [show S.en = some z from ez] at en; cases en⟩, sr.chg hc.tC hc.kC hc.setC (pos_lt ho), (R.b.put6 hc.tC hc.kC).of rfl rfl rfl⟩
  show cur = .ref (L.A ((setAt (b :: r) j { o with cs := cs }).length - 1))
  rw [e1, setAt_len, e]
section
variable {P : Program} {w : World} {K : PySem.W.Frag} {mg : Str → Option Value} {base : Heap} {a : Ad}
theorem ok_do_load (T : Txt w K mg a) : FnOk P w K mg base CX0 2 a.f_do_load a.d_do_load ["machine", "activation", "instruction"] (spDo K a (fun i => ∃ d h c n e, i = .ld d h c n e)) := by
  have G_Activation_value : FnOk P w K mg base CX0 1 _ _ _ _ := ok_value T
  have G_Activation_write : FnOk P w K mg base CX0 1 _ _ _ _ := ok_write T
  have G_Activation_outward : FnOk P w K mg base CX0 1 _ _ _ _ := ok_outward T
  refine T.F__do_load.ok sc_do_load (fun vs H Q E h => ?_) (fun cdv A outer s H vs Q E hr h => ?_)
  · obtain ⟨_, _, _, _, _, _, _, _, _, rfl, _⟩ := h; rfl
  · obtain ⟨τ, M, Ev', L, S, b, r, v, i, rfl, pi, dv, R, hen, est, ok, hu, ao, q⟩ := h
    refine ⟨_, (pss_cons (ps_asg (pv 2) (pg_tup rfl (pgs_cons (pg_name (i := 3) sc_do_load.nd rfl (Or.inl rfl)) (pgs_cons (pg_name (i := 4) sc_do_load.nd rfl (Or.inl rfl)) (pgs_cons (pg_name (i := 5) sc_do_load.nd rfl (Or.inl rfl)) (pgs_cons (pg_name (i := 6) sc_do_load.nd rfl (Or.inl rfl)) (pgs_cons (pg_name (i := 7) sc_do_load.nd rfl (Or.inl rfl)) (pgs_cons (pg_name (i := 8) sc_do_load.nd rfl (Or.inl rfl)) pgs_nil))))))))
      (pss_cons (ps_set (i := 9) sc_do_load.nd rfl (Or.inl rfl) (pe_meth (pv 1) T.cl_Activation T.m_Activation_value G_Activation_value (hr.mono (by decide)) T.bd_Activation_value .nil pass0 (pa_cons (pv 8) pa_nil)))
      (pss_one (ps_if (pt_chain op_le op_lt pe_int (pv 9) (pv 7)) (pss_one (ps_expr (pe_meth (pv 1) T.cl_Activation T.m_Activation_write G_Activation_write (hr.mono (by decide)) T.bd_Activation_write .nil pass0 (pa_cons (pv 4) (pa_cons (pe_ix ix_list (pe_fld (pe_meth (pv 1) T.cl_Activation T.m_Activation_outward G_Activation_outward (hr.mono (by decide)) T.bd_Activation_outward .nil pass0 (pa_cons (pv 5) pa_nil)) rfl) (pe_op op_add (pv 6) (pv 9)) (fun _ _ => rfl)) pa_nil))))) (pss_one (ps_fld (pv 0) (pe_glob (v := .ref a.c_FAULT) rfl T.g_FAULT rfl) rfl)))))), ?_⟩
    obtain ⟨hb, hr2⟩ := R.top est
    obtain ⟨dx, wa, hA, hW, hC, hwa⟩ := id hb
    obtain ⟨dm, cur, en, hM, hrun, hend⟩ := id R.m.m
    obtain ⟨ecur, een, hne⟩ := hrun hen
    subst een
    obtain ⟨d, h, c, n, e, rfl⟩ := pi
    obtain ⟨wv, ov, h0, h1, c0, ao⟩ := ao
    obtain ⟨pb, xs, rfl, hp1, hp2⟩ := DT.ts dv
    obtain ⟨v0, r0, rfl, d0, hp2⟩ := hp2.un
    obtain ⟨v1, r1, rfl, d1, hp2⟩ := hp2.un
    obtain ⟨v2, r2, rfl, d2, hp2⟩ := hp2.un
    obtain ⟨v3, r3, rfl, d3, hp2⟩ := hp2.un
    obtain ⟨v4, r4, rfl, d4, hp2⟩ := hp2.un
    obtain ⟨v5, r5, rfl, d5, hp2⟩ := hp2.un
    cases hp2.em
    cases d1.i
    cases d2.i
    cases d3.i
    cases d4.i
    obtain ⟨h, rfl⟩ := Int.eq_ofNat_of_zero_le h0
    obtain ⟨c, rfl⟩ := Int.eq_ofNat_of_zero_le c0
    refine ⟨_, rfl, _, _, rfl, hp1, rfl, _, _, rfl, _, _, rfl, _, _, rfl, _, _, rfl, _, _, rfl, _, _, rfl, rfl, ?_⟩
    refine ⟨_, rfl, _, _, _, rfl, hA.1, acF_no_value _ _ _ _ _ _ _ _ _, _, rfl, τ, L, r.length, b, v5, e, rfl, hb, d5, ov, ?_⟩
    have flt : ∀ y, actB Ev' S b r y = { S with st := b :: r, en := some .fault } → (y = .ld d (h : Int) (c : Int) n e) → Q .non (upd H M (.ins a.C_Machine dm (putF "ending" (.ref a.c_FAULT) (mcF L.mo L.lo L.ev L.fu cur .non)))) := fun y h hy => by
      subst hy
      rw [mcF_put_ending]
      refine q τ _ L ?_ rfl (GM.refl.putI hM (by simp))
      rw [h]
      exact (R.q0 est).setE hM (z := .fault) (.tup (T.q_FAULT H) (.cons (.str _) .nil))
    have ff : ¬ (0 ≤ b.val e ∧ b.val e < n) → actB Ev' S b r (.ld d (h : Int) (c : Int) n e) = { S with st := b :: r, en := some .fault } := fun hn => if_neg hn
    refine ⟨_, rfl, _, _, rfl, rfl, _, rfl, ?_⟩
    cases z0 : decide (0 ≤ b.val e) with
    | false => exact iteF ⟨_, rfl, iteF ⟨_, rfl, M, a.C_Machine, dm, _, rfl, hM.1, T.cl_Machine, T.n_Machine_ending, (Nat.le_of_ble_eq_true rfl), flt _ (ff fun h => by have := of_decide_eq_false z0; omega) rfl⟩⟩
    | true =>
      refine iteT ⟨_, rfl, _, _, rfl, rfl, _, rfl, ?_⟩
      cases z1 : decide (b.val e < n) with
      | false => exact iteF ⟨_, rfl, M, a.C_Machine, dm, _, rfl, hM.1, T.cl_Machine, T.n_Machine_ending, (Nat.le_of_ble_eq_true rfl), flt _ (ff fun h => by have := of_decide_eq_false z1; omega) rfl⟩
      | true =>
        have hy : 0 ≤ b.val e ∧ b.val e < n := ⟨of_decide_eq_true z0, of_decide_eq_true z1⟩
        obtain ⟨j, o, e1, e2, e3⟩ := ao hy
        have sr := R.s
        rw [est] at sr
        have ho := sr.at e2
        obtain ⟨dxo, wao, hAo, hWo, hCo, hwao⟩ := id ho
        have ek : (c : Int) + b.val e = (((((c : Int) + b.val e).toNat) : Nat) : Int) := by omega
        have lk : ((c : Int) + b.val e).toNat < o.cs.length := by omega
        refine iteT ⟨_, rfl, _, _, _, rfl, hA.1, acF_no_write _ _ _ _ _ _ _ _ _, _, rfl, _, rfl, _, _, _, rfl, hA.1, acF_no_outward _ _ _ _ _ _ _ _ _, _, rfl, τ, L, b :: r, h, r.length, j, rfl, sr, e1, (by omega), L.A j, a.C_Activation, dxo, _, _, rfl, hAo.1, T.cl_Activation, T.n_Activation_cells, acF_cells _ _ _ _ _ _ _ _ _, _, rfl, _, rfl, _, _, rfl, rfl, _, _, _, _, rfl, rfl, SqL.of hCo.1, (by rw [ek]; exact atI_nat (at_map lk)), ?_⟩
        refine ⟨τ, L, r.length, b, d, _, rfl, hb, wv.1, wv.2, q τ _ L (by
          have : actB Ev' S b r (.ld d (h : Int) (c : Int) n e) = { S with st := b.wr d (o.cs.getD ((c : Int) + b.val e).toNat 0) :: r } := by
            unfold actB; dsimp only
            rw [if_pos hy, e1]; dsimp only; rw [e2]
          rw [this]; exact R.wr hen est) rfl (GM.refl.put hW (by simp))⟩
theorem ok_do_store (T : Txt w K mg a) : FnOk P w K mg base CX0 2 a.f_do_store a.d_do_store ["machine", "activation", "instruction"] (spDo K a (fun i => ∃ h c n e x, i = .st h c n e x)) := by
  have G_Activation_value : FnOk P w K mg base CX0 1 _ _ _ _ := ok_value T
  have G_Activation_write : FnOk P w K mg base CX0 1 _ _ _ _ := ok_write T
  have G_Activation_outward : FnOk P w K mg base CX0 1 _ _ _ _ := ok_outward T
  refine T.F__do_store.ok sc_do_store (fun vs H Q E h => ?_) (fun cdv A outer s H vs Q E hr h => ?_)
  · obtain ⟨_, _, _, _, _, _, _, _, _, rfl, _⟩ := h; rfl
  · obtain ⟨τ, M, Ev', L, S, b, r, v, i, rfl, pi, dv, R, hen, est, ok, hu, ao, q⟩ := h
    refine ⟨_, (pss_cons (ps_asg (pv 2) (pg_tup rfl (pgs_cons (pg_name (i := 3) sc_do_store.nd rfl (Or.inl rfl)) (pgs_cons (pg_name (i := 4) sc_do_store.nd rfl (Or.inl rfl)) (pgs_cons (pg_name (i := 5) sc_do_store.nd rfl (Or.inl rfl)) (pgs_cons (pg_name (i := 6) sc_do_store.nd rfl (Or.inl rfl)) (pgs_cons (pg_name (i := 7) sc_do_store.nd rfl (Or.inl rfl)) (pgs_cons (pg_name (i := 8) sc_do_store.nd rfl (Or.inl rfl)) pgs_nil))))))))
      (pss_cons (ps_set (i := 9) sc_do_store.nd rfl (Or.inl rfl) (pe_meth (pv 1) T.cl_Activation T.m_Activation_value G_Activation_value (hr.mono (by decide)) T.bd_Activation_value .nil pass0 (pa_cons (pv 7) pa_nil)))
      (pss_one (ps_if (pt_chain op_le op_lt pe_int (pv 9) (pv 6)) (pss_one (ps_asg (pe_meth (pv 1) T.cl_Activation T.m_Activation_value G_Activation_value (hr.mono (by decide)) T.bd_Activation_value .nil pass0 (pa_cons (pv 8) pa_nil)) (pg_sub (pe_fld (pe_meth (pv 1) T.cl_Activation T.m_Activation_outward G_Activation_outward (hr.mono (by decide)) T.bd_Activation_outward .nil pass0 (pa_cons (pv 4) pa_nil)) rfl) (pe_op op_add (pv 5) (pv 9)) set_list))) (pss_one (ps_fld (pv 0) (pe_glob (v := .ref a.c_FAULT) rfl T.g_FAULT rfl) rfl)))))), ?_⟩
    obtain ⟨hb, hr2⟩ := R.top est
    obtain ⟨dx, wa, hA, hW, hC, hwa⟩ := id hb
    obtain ⟨dm, cur, en, hM, hrun, hend⟩ := id R.m.m
    obtain ⟨ecur, een, hne⟩ := hrun hen
    subst een
    obtain ⟨h, c, n, e, x, rfl⟩ := pi
    obtain ⟨ov, ow, h0, h1, c0, ao⟩ := ao
    obtain ⟨pb, xs, rfl, hp1, hp2⟩ := DT.ts dv
    obtain ⟨v0, r0, rfl, d0, hp2⟩ := hp2.un
    obtain ⟨v1, r1, rfl, d1, hp2⟩ := hp2.un
    obtain ⟨v2, r2, rfl, d2, hp2⟩ := hp2.un
    obtain ⟨v3, r3, rfl, d3, hp2⟩ := hp2.un
    obtain ⟨v4, r4, rfl, d4, hp2⟩ := hp2.un
    obtain ⟨v5, r5, rfl, d5, hp2⟩ := hp2.un
    cases hp2.em
    cases d1.i
    cases d2.i
    cases d3.i
    obtain ⟨h, rfl⟩ := Int.eq_ofNat_of_zero_le h0
    obtain ⟨c, rfl⟩ := Int.eq_ofNat_of_zero_le c0
    refine ⟨_, rfl, _, _, rfl, hp1, rfl, _, _, rfl, _, _, rfl, _, _, rfl, _, _, rfl, _, _, rfl, _, _, rfl, rfl, ?_⟩
    refine ⟨_, rfl, _, _, _, rfl, hA.1, acF_no_value _ _ _ _ _ _ _ _ _, _, rfl, τ, L, r.length, b, v4, e, rfl, hb, d4, ov, ?_⟩
    have flt : ∀ y, actB Ev' S b r y = { S with st := b :: r, en := some .fault } → (y = .st (h : Int) (c : Int) n e x) → Q .non (upd H M (.ins a.C_Machine dm (putF "ending" (.ref a.c_FAULT) (mcF L.mo L.lo L.ev L.fu cur .non)))) := fun y h hy => by
      subst hy
      rw [mcF_put_ending]
      refine q τ _ L ?_ rfl (GM.refl.putI hM (by simp))
      rw [h]
      exact (R.q0 est).setE hM (z := .fault) (.tup (T.q_FAULT H) (.cons (.str _) .nil))
    have ff : ¬ (0 ≤ b.val e ∧ b.val e < n) → actB Ev' S b r (.st (h : Int) (c : Int) n e x) = { S with st := b :: r, en := some .fault } := fun hn => if_neg hn
    refine ⟨_, rfl, _, _, rfl, rfl, _, rfl, ?_⟩
    cases z0 : decide (0 ≤ b.val e) with
    | false => exact iteF ⟨_, rfl, iteF ⟨_, rfl, M, a.C_Machine, dm, _, rfl, hM.1, T.cl_Machine, T.n_Machine_ending, (Nat.le_of_ble_eq_true rfl), flt _ (ff fun h => by have := of_decide_eq_false z0; omega) rfl⟩⟩
    | true =>
      refine iteT ⟨_, rfl, _, _, rfl, rfl, _, rfl, ?_⟩
      cases z1 : decide (b.val e < n) with
      | false => exact iteF ⟨_, rfl, M, a.C_Machine, dm, _, rfl, hM.1, T.cl_Machine, T.n_Machine_ending, (Nat.le_of_ble_eq_true rfl), flt _ (ff fun h => by have := of_decide_eq_false z1; omega) rfl⟩
      | true =>
        have hy : 0 ≤ b.val e ∧ b.val e < n := ⟨of_decide_eq_true z0, of_decide_eq_true z1⟩
        obtain ⟨j, o, e1, e2, e3⟩ := ao hy
        have sr := R.s
        rw [est] at sr
        have ho := sr.at e2
        obtain ⟨dxo, wao, hAo, hWo, hCo, hwao⟩ := id ho
        have ek : (c : Int) + b.val e = (((((c : Int) + b.val e).toNat) : Nat) : Int) := by omega
        have lk : ((c : Int) + b.val e).toNat < o.cs.length := by omega
        refine iteT ⟨_, rfl, _, _, _, rfl, hA.1, acF_no_value _ _ _ _ _ _ _ _ _, _, rfl, τ, L, r.length, b, v5, x, rfl, hb, d5, ow, _, rfl, _, _, _, rfl, hA.1, acF_no_outward _ _ _ _ _ _ _ _ _, _, rfl, τ, L, b :: r, h, r.length, j, rfl, sr, e1, (by omega), L.A j, a.C_Activation, dxo, _, _, rfl, hAo.1, T.cl_Activation, T.n_Activation_cells, acF_cells _ _ _ _ _ _ _ _ _, _, rfl, _, rfl, _, _, rfl, rfl, _, _, _, _, rfl, rfl, hCo.1, (by rw [ek]; exact ixN_nat (by rw [List.length_map]; exact lk)), ?_⟩
        rw [set_int]
        refine q τ _ L ?_ rfl (GM.refl.put hCo (by simp))
        have : actB Ev' S b r (.st (h : Int) (c : Int) n e x) = { S with st := setAt (b :: r) j { o with cs := o.cs.set ((c : Int) + b.val e).toNat (b.val x) } } := by
          unfold actB; dsimp only
          rw [if_pos hy, e1]; dsimp only; rw [e2]
        rw [this]
        exact R.chg hen est e2
end

/-! ### new activations -/
structure AI (H Hk : Hp) (p : Addr) (o : HO) : Prop where
  e : Hk p = some o
  k : ∀ b x, H b = some x → b ≠ p → Hk b = some x
namespace AI
variable {H Hk : Hp} {p q : Addr} {o o' x : HO}
theorem put (h : AI H Hk p o) : AI H (upd Hk p o') p o' := ⟨upd_same, fun b y e n => by rw [upd_ne n]; exact h.k b y e n⟩
theorem new (h : AI H Hk p o) (n : Hk q = none) : AI H (upd Hk q x) p o := ⟨by rw [upd_ne (ne_of_none h.e n)]; exact h.e, fun b y e nb => by rw [upd_ne (ne_of_none (h.k b y e nb) n)]; exact h.k b y e nb⟩
theorem none (h : AI H Hk p o) (n : Hk q = none) : H q = none := by
  cases e : H q with
  | none => rfl
  | some y => rw [h.k q y e (fun z => by subst z; rw [h.e] at n; cases n)] at n; cases n
end AI
theorem un_ne4 : ¬ ("cells" : Str) = "regions" := by decide +kernel
theorem un_ne5 : ¬ ("cells" : Str) = "code" := by decide +kernel
theorem un_cl (v0 v1 v2 v3 v4 v5 v6 : V) : (unF v0 v1 v2 v3 v4 v5 v6).lookup ("cells" : Str) = some v4 :=
  ((lookup_putF "regions" "cells" v6 _).trans (if_neg un_ne4)).trans (((lookup_putF "code" "cells" v5 _).trans (if_neg un_ne5)).trans ((lookup_putF "cells" "cells" v4 _).trans (if_pos rfl)))
def spLyI (K : PySem.W.Frag) (a : Ad) : Sp := fun vs H Q _ => ∃ (p dx wa ia ea ka : Addr), vs = [.ref p, .ref wa, .ref ia, .ref ea, .ref ka] ∧ H p = some (.ins a.C_Layout dx []) ∧ Q .non (upd H p (.ins a.C_Layout dx (lyF wa ia ea ka)))
def spAcI (K : PySem.W.Frag) (a : Ad) : Sp := fun vs H Q _ => ∃ (p dx ua dxu la dxl wa ia ea ka : Addr) (n : Int) (v0 v1 v2 v3 v5 v6 : V) (cl : Nat) (is : List V) (lk cr : V) (dp : Int), vs = [.ref p, .int n, .ref ua, .ref la, lk, cr] ∧ H p = some (.ins a.C_Activation dx []) ∧ H la = some (.ins a.C_Layout dxl (lyF wa ia ea ka)) ∧ H ia = some (.lst is) ∧
  H ua = some (.ins a.C_Unit dxu (unF v0 v1 v2 v3 (.int (cl : Int)) v5 v6)) ∧ cl ≤ 1000 ∧
  ((cr = .non ∧ dp = 1) ∨ ∃ (ca dxc : Addr) (n' : Int) (u' w' W' C' : Addr) (lk' cr' : V) (d' i' : Int), cr = .ref ca ∧ H ca = some (.ins a.C_Activation dxc (acF n' u' w' W' C' lk' cr' d' i')) ∧ ca ≠ p ∧ dp = d' + 1) ∧
  ∀ (W C : Addr) (H' : Hp), H W = none → H C = none → W ≠ C → H' p = some (.ins a.C_Activation dx (acF n ua wa W C lk cr dp 0)) → H' W = some (.lst is) → H' C = some (.lst ((List.replicate cl (0 : Int)).map V.int)) → (∀ b o, H b = some o → b ≠ p → H' b = some o) → Q .non H'
section
variable {P : Program} {w : World} {K : PySem.W.Frag} {mg : Str → Option Value} {base : Heap} {a : Ad}
theorem ok_Layout___init__ (T : Txt w K mg a) : FnOk P w K mg base CX0 1 a.f_Layout___init__ a.d_Layout___init__ ["self", "where", "initial", "entrances", "cleared"] (spLyI K a) := by
  refine T.F_Layout___init__.ok sc_Layout___init__ (fun vs H Q E h => ?_) (fun cdv A outer s H vs Q E hr h => ?_)
  · obtain ⟨_, _, _, _, _, _, rfl, _⟩ := h; rfl
  · obtain ⟨p, dx, wa, ia, ea, ka, rfl, hp, q⟩ := h
    refine ⟨_, (pss_cons (ps_fld (pv 0) (pv 1) rfl)
      (pss_cons (ps_fld (pv 0) (pv 2) rfl)
      (pss_cons (ps_fld (pv 0) (pv 3) rfl)
      (pss_one (ps_fld (pv 0) (pv 4) rfl))))), ?_⟩
    refine ⟨_, rfl, _, rfl, p, a.C_Layout, dx, [], rfl, hp, T.cl_Layout, T.n_Layout_where, (by show 0 < 1000; decide), ?_⟩
    refine ⟨_, rfl, _, rfl, p, a.C_Layout, dx, _, rfl, upd_same, T.cl_Layout, T.n_Layout_initial, (by show 1 < 1000; decide), ?_⟩
    refine ⟨_, rfl, _, rfl, p, a.C_Layout, dx, _, rfl, upd_same, T.cl_Layout, T.n_Layout_entrances, lyF_len2 _ _, ?_⟩
    refine ⟨_, rfl, _, rfl, p, a.C_Layout, dx, _, rfl, upd_same, T.cl_Layout, T.n_Layout_cleared, lyF_len3 _ _ _, ?_⟩
    rw [upd_upd, upd_upd, upd_upd, lyF_mk]
    exact q
theorem ok_Activation___init__ (T : Txt w K mg a) : FnOk P w K mg base CX0 1 a.f_Activation___init__ a.d_Activation___init__ ["self", "number", "unit", "layout", "link", "caller"] (spAcI K a) := by
  refine T.F_Activation___init__.ok sc_Activation___init__ (fun vs H Q E h => ?_) (fun cdv A outer s H vs Q E hr h => ?_)
  · obtain ⟨_, _, _, _, _, _, _, _, _, _, _, _, _, _, _, _, _, _, _, _, _, _, rfl, _⟩ := h; rfl
  · obtain ⟨p, dx, ua, dxu, la, dxl, wa, ia, ea, ka, n, v0, v1, v2, v3, v5, v6, cl, is, lk, cr, dp, rfl, hp, hla, hia, hua, hcl, hcr, q⟩ := h
    refine ⟨_, (pss_cons (ps_fld (pv 0) (pv 1) rfl)
      (pss_cons (ps_fld (pv 0) (pv 2) rfl)
      (pss_cons (ps_fld (pv 0) (pe_fld (pv 3) rfl) rfl)
      (pss_cons (ps_fld (pv 0) (pe_callTy call_list_of (by rfl) T.b_list (by decide +kernel) (pa_cons (pe_fld (pv 3) rfl) pa_nil)) rfl)
      (pss_cons (ps_fld (pv 0) (pe_op op_rep (pe_lst (pa_cons pe_int pa_nil)) (pe_fld (pv 2) rfl)) rfl)
      (pss_cons (ps_fld (pv 0) (pv 4) rfl)
      (pss_cons (ps_fld (pv 0) (pv 5) rfl)
      (pss_cons (ps_fld (pv 0) (pe_ifExp (pt_cmpR op_isN (pv 5) pe_non (nomark _)) pe_int (pe_op op_add (pe_fld (pv 5) rfl) pe_int)) rfl)
      (pss_one (ps_fld (pv 0) pe_int rfl)))))))))), ?_⟩
    have npl : la ≠ p := ne_of hla hp (by intro z; injection z with _ _ z; exact absurd z (by unfold lyF; simp))
    have npu : ua ≠ p := ne_of hua hp (by intro z; injection z with _ _ z; have := un_rg v0 v1 v2 v3 (.int (cl : Int)) v5 v6; rw [z] at this; cases this)
    have npi : ia ≠ p := ne_of hia hp (by intro z; cases z)
    have A0 : AI H H p (.ins a.C_Activation dx []) := ⟨hp, fun _ _ e _ => e⟩
    refine ⟨_, rfl, _, rfl, p, a.C_Activation, dx, [], rfl, A0.e, T.cl_Activation, T.n_Activation_number, (by show 0 < 1000; decide), ?_⟩
    have A1 := A0.put (o' := .ins a.C_Activation dx (putF "number" (.int n) []))
    refine ⟨_, rfl, _, rfl, p, a.C_Activation, dx, _, rfl, A1.e, T.cl_Activation, T.n_Activation_unit, acF_len1 _, ?_⟩
    have A2 := A1.put (o' := .ins a.C_Activation dx (putF "unit" (.ref ua) (putF "number" (.int n) [])))
    refine ⟨_, rfl, la, a.C_Layout, dxl, _, _, rfl, A2.k _ _ hla npl, T.cl_Layout, T.n_Layout_where, lyF_where _ _ _ _, _, rfl, p, a.C_Activation, dx, _, rfl, A2.e, T.cl_Activation, T.n_Activation_where, acF_len2 _ _, ?_⟩
    have A3 := A2.put (o' := .ins a.C_Activation dx (putF "where" (.ref wa) (putF "unit" (.ref ua) (putF "number" (.int n) []))))
    refine ⟨_, rfl, la, a.C_Layout, dxl, _, _, rfl, A3.k _ _ hla npl, T.cl_Layout, T.n_Layout_initial, lyF_initial _ _ _ _, ia, is, rfl, .inl (SqL.of (A3.k _ _ hia npi)), fun W nW => ?_⟩
    have A4 := A3.new (x := .lst is) nW
    have nWp := (ne_of_none A3.e nW).symm
    refine ⟨_, rfl, p, a.C_Activation, dx, _, rfl, A4.e, T.cl_Activation, T.n_Activation_words, acF_len3 _ _ _, ?_⟩
    have A5 := A4.put (o' := .ins a.C_Activation dx (putF "words" (.ref W) (putF "where" (.ref wa) (putF "unit" (.ref ua) (putF "number" (.int n) [])))))
    refine ⟨by decide, fun l1 nl1 => ?_⟩
    have A6 := A5.new (x := .lst [.int 0]) nl1
    refine ⟨_, rfl, ua, a.C_Unit, dxu, _, _, rfl, A6.k _ _ hua npu, T.cl_Unit, T.n_Unit_cells, un_cl _ _ _ _ _ _ _, _, _, _, rfl, rfl, upd_same, by omega, by omega, (by have := small1000 hcl; simp; omega), fun C nC => ?_⟩
    have nl1W : W ≠ l1 := ne_of_none (by rw [upd_ne nWp, upd_same]) nl1
    have A7 := A6.new (x := .lst ((List.replicate ((cl : Int)).toNat [V.int 0]).flatten)) nC
    have nCp := (ne_of_none A6.e nC).symm
    have nCW : C ≠ W := by
      intro z
      have : (upd (upd (upd (upd (upd (upd H p (.ins a.C_Activation dx (putF "number" (.int n) []))) p (.ins a.C_Activation dx (putF "unit" (.ref ua) (putF "number" (.int n) [])))) p (.ins a.C_Activation dx (putF "where" (.ref wa) (putF "unit" (.ref ua) (putF "number" (.int n) []))))) W (.lst is)) p (.ins a.C_Activation dx (putF "words" (.ref W) (putF "where" (.ref wa) (putF "unit" (.ref ua) (putF "number" (.int n) [])))))) l1 (.lst [.int 0])) W = some (.lst is) := by
        rw [upd_ne (ne_of_none (by rw [upd_ne nWp, upd_same]) nl1), upd_ne nWp, upd_same]
      rw [z, this] at nC; cases nC
    refine ⟨_, rfl, p, a.C_Activation, dx, _, rfl, A7.e, T.cl_Activation, T.n_Activation_cells, acF_len4 _ _ _ _, ?_⟩
    have A8 := A7.put (o' := .ins a.C_Activation dx (putF "cells" (.ref C) (putF "words" (.ref W) (putF "where" (.ref wa) (putF "unit" (.ref ua) (putF "number" (.int n) []))))))
    refine ⟨_, rfl, _, rfl, p, a.C_Activation, dx, _, rfl, A8.e, T.cl_Activation, T.n_Activation_link, acF_len5 _ _ _ _ _, ?_⟩
    have A9 := A8.put (o' := .ins a.C_Activation dx (putF "link" lk (putF "cells" (.ref C) (putF "words" (.ref W) (putF "where" (.ref wa) (putF "unit" (.ref ua) (putF "number" (.int n) [])))))))
    refine ⟨_, rfl, _, rfl, p, a.C_Activation, dx, _, rfl, A9.e, T.cl_Activation, T.n_Activation_caller, acF_len6 _ _ _ _ _ _, ?_⟩
    have A10 := A9.put (o' := .ins a.C_Activation dx (putF "caller" cr (putF "link" lk (putF "cells" (.ref C) (putF "words" (.ref W) (putF "where" (.ref wa) (putF "unit" (.ref ua) (putF "number" (.int n) []))))))))
    have nW0 : H W = none := A3.none nW
    have nC0 : H C = none := A6.none nC
    have fin : ∀ H', AI H H' p (.ins a.C_Activation dx (acF n ua wa W C lk cr dp 0)) → H' W = some (.lst is) → H' C = some (.lst ((List.replicate ((cl : Int)).toNat [V.int 0]).flatten)) → Q .non H' := fun H' Ae hW hC => by
      rw [Int.toNat_natCast, rep_int] at hC
      exact q W C H' nW0 nC0 nCW.symm Ae.e hW hC Ae.k
    refine ⟨_, rfl, rfl, _, rfl, ite3 (fun e => ?_) (fun e => ?_)⟩
    · rcases hcr with ⟨rfl, rfl⟩ | ⟨ca, dxc, n', u', w', W', C', lk', cr', d', i', rfl, h1, h2, h3⟩
      · refine ⟨_, rfl, p, a.C_Activation, dx, _, rfl, A10.e, T.cl_Activation, T.n_Activation_depth, acF_len7 _ _ _ _ _ _ _, ?_⟩
        have A11 := A10.put (o' := .ins a.C_Activation dx (putF "depth" (.int 1) (putF "caller" .non (putF "link" lk (putF "cells" (.ref C) (putF "words" (.ref W) (putF "where" (.ref wa) (putF "unit" (.ref ua) (putF "number" (.int n) [])))))))))
        refine ⟨_, rfl, p, a.C_Activation, dx, _, rfl, A11.e, T.cl_Activation, T.n_Activation_index, acF_len8 _ _ _ _ _ _ _ _, ?_⟩
        rw [acF_mk]
        have A12 := A11.put (o' := .ins a.C_Activation dx (acF n ua wa W C lk .non 1 0))
        exact fin _ A12 (by rw [upd_ne nWp, upd_ne nWp, upd_ne nWp, upd_ne nWp, upd_ne nWp, upd_ne nCW.symm, upd_ne nl1W, upd_ne nWp, upd_same]) (by rw [upd_ne nCp, upd_ne nCp, upd_ne nCp, upd_ne nCp, upd_ne nCp, upd_same])
      · exact absurd (of_decide_eq_true e) (by simp)
    · rcases hcr with ⟨rfl, rfl⟩ | ⟨ca, dxc, n', u', w', W', C', lk', cr', d', i', rfl, h1, h2, h3⟩
      · exact absurd rfl (of_decide_eq_false e)
      · refine ⟨_, rfl, ca, a.C_Activation, dxc, _, _, rfl, A10.k _ _ h1 h2, T.cl_Activation, T.n_Activation_depth, acF_depth _ _ _ _ _ _ _ _ _, _, _, rfl, rfl, ?_⟩
        refine ⟨_, rfl, p, a.C_Activation, dx, _, rfl, A10.e, T.cl_Activation, T.n_Activation_depth, acF_len7 _ _ _ _ _ _ _, ?_⟩
        have A11 := A10.put (o' := .ins a.C_Activation dx (putF "depth" (.int (d' + 1)) (putF "caller" (.ref ca) (putF "link" lk (putF "cells" (.ref C) (putF "words" (.ref W) (putF "where" (.ref wa) (putF "unit" (.ref ua) (putF "number" (.int n) [])))))))))
        refine ⟨_, rfl, p, a.C_Activation, dx, _, rfl, A11.e, T.cl_Activation, T.n_Activation_index, acF_len8 _ _ _ _ _ _ _ _, ?_⟩
        rw [acF_mk]
        have A12 := A11.put (o' := .ins a.C_Activation dx (acF n ua wa W C lk (.ref ca) (d' + 1) 0))
        subst h3
        exact fin _ A12 (by rw [upd_ne nWp, upd_ne nWp, upd_ne nWp, upd_ne nWp, upd_ne nWp, upd_ne nCW.symm, upd_ne nl1W, upd_ne nWp, upd_same]) (by rw [upd_ne nCp, upd_ne nCp, upd_ne nCp, upd_ne nCp, upd_ne nCp, upd_same])
end

/-! ### activate -/
theorem for_zl {K : PySem.W.Frag} {a b : Addr} {xs ys : List V} {g : TG} {tb : TS} {D : Ends} {σ : St} {H : Hp} (len : xs.length ≤ ys.length) (Pv : Nat → St → Hp → Prop) (h0 : Pv 0 σ H) (hl : ∀ i σ H, i ≤ xs.length → Pv i σ H → SqT K H a xs ∧ SqL K H b ys)
    (hs : ∀ i x y σ H, xs[i]? = some x → ys[i]? = some y → Pv i σ H → ∀ T, H T = none → g (.ref T) σ (upd H T (.tup [x, y])) fun σ2 H2 => tb { D with nx := Pv (i + 1), ct := Pv (i + 1), bk := D.nx } σ2 H2) (hd : ∀ σ H, Pv xs.length σ H → D.nx σ H) :
    ∃ W : Nat → Nat → St → Hp → Prop, (∃ m, W 0 m σ H) ∧ ∀ i m σ H, W i m σ H →
      ((EZ.Itzl K a b).stop i H ∧ D.nx σ H) ∨ ((EZ.Itzl K a b).go i H ∧ ∃ N : St → Hp → Prop, (∀ σ' H', N σ' H' → ∃ m', m' < m ∧ W (i + 1) m' σ' H') ∧ ∀ x H', (EZ.Itzl K a b).yld i H x H' → g x σ H' fun σ2 H2 => tb { D with nx := N, ct := N, bk := D.nx } σ2 H2) := by
  refine ⟨fun i m σ H => m = xs.length - i ∧ i ≤ xs.length ∧ Pv i σ H, ⟨xs.length, by simp, Nat.zero_le _, h0⟩, ?_⟩
  rintro i m σ H ⟨rfl, hi, p⟩
  obtain ⟨q, q2⟩ := hl i σ H hi p
  by_cases hlt : i < xs.length
  · have h2 : i < ys.length := by omega
    refine .inr ⟨⟨xs, ys, xs[i], ys[i], q, q2, by simp [hlt], by simp [h2]⟩, Pv (i + 1), fun σ' H' p' => ⟨xs.length - (i + 1), by omega, rfl, hlt, p'⟩, ?_⟩
    rintro v H' ⟨T, x, y, rfl, nT, rfl, ex, ey⟩
    exact hs i x y σ _ (ex xs q) (ey ys q2) p T nT
  · have e : i = xs.length := by omega
    subst e
    exact .inl ⟨⟨xs, ys, q, q2, rfl⟩, hd σ H p⟩
def newL (L : Ads) (j : Nat) (p W C : Addr) : Ads := { L with A := fun k => if k = j then p else L.A k, W := fun k => if k = j then W else L.W k, C := fun k => if k = j then C else L.C k }
def spAct (K : PySem.W.Frag) (a : Ad) : Sp := fun vs H Q _ => ∃ (τ : Tg) (M : Addr) (E : Ev) (L : Ads) (S : Ms) (o : Nat) (lk : Option Nat) (al : Addr) (ws : List Int) (dm : Addr), vs = [.ref M, .int (o : Int), lkV L.A lk, .ref al] ∧
  At τ H M (.ins a.C_Machine dm (mcF L.mo L.lo L.ev L.fu (topV L S.st) .non)) (5, 0, 0) ∧ StR K a τ H L S.st ∧ MRB K a τ H E L S ∧ H al = some (.lst (ws.map V.int)) ∧ (τ al).1 ∉ [2, 5, 6, 9] ∧ S.en = none ∧ o < E.us.length ∧ ws.length = (E.u o).ar ∧ (E.u o).ar ≤ (E.u o).g ∧ (E.u o).cl ≤ 1000 ∧
  (∀ c ∈ S.st, ∀ m, c.lk = some m → m < S.st.length) ∧ (∀ m, lk = some m → m < S.st.length) ∧
  ∀ (τ' : Tg) (H' : Hp) (L' : Ads), MRA K a τ' H' E L' M { S with st := newA E o lk ws :: S.st } → L'.Y = L.Y → GM K τ τ' H H' → Q .non H'
theorem n56 {n : Nat} (h : n ∉ [2, 5, 6, 9]) : n ∉ [5, 6] := fun m => h (by
  rcases List.mem_cons.mp m with e | m
  · rw [e]; decide
  · rw [List.mem_singleton.mp m]; decide)
theorem resO_len : ∀ (xs vs ws : List Int), (resO xs vs ws).length = ws.length := fun xs vs ws => by
  unfold resO
  generalize xs.zip vs = zs
  induction zs generalizing ws with
  | nil => rfl
  | cons z t ih => rw [List.foldl_cons, ih]; simp
theorem resO_snoc : ∀ {xs vs : List Int} {i : Nat} (r : List Int), i < xs.length → i < vs.length → resO xs (vs.take (i + 1)) r = (resO xs (vs.take i) r).set (xs.getD i 0).toNat (vs.getD i 0)
  | [], _, _, _, h, _ => by simp at h
  | _ :: _, [], _, _, _, h => by simp at h
  | x :: xs, v :: vs, 0, r, _, _ => by simp [resO]
  | x :: xs, v :: vs, i + 1, r, h1, h2 => by
    have := resO_snoc (xs := xs) (vs := vs) (i := i) (r.set x.toNat v) (by simpa using h1) (by simpa using h2)
    exact this
theorem Same.stp4 {τ : Tg} {H H' : Hp} {d x W C : Addr} {t1 t2 t3 t4 : Nat × Nat × Nat} {Z : List Nat} (s : Same H H') (nd : H d = none) (nx : H x = none) (nW : H W = none) (nC : H C = none) : Stp τ (tgN (tgN (tgN (tgN τ d t1) x t2) W t3) C t4) Z H H' :=
  ⟨fun b o e _ => s b o e, fun b e => by rw [tg_ne (fun z => e (by rw [z]; exact nC)), tg_ne (fun z => e (by rw [z]; exact nW)), tg_ne (fun z => e (by rw [z]; exact nx)), tg_ne (fun z => e (by rw [z]; exact nd))], (Stp.same (τ := τ) (S := Z) s).al⟩
section
variable {K : PySem.W.Frag} {a : Ad} {τ : Tg} {H : Hp} {E : Ev} {L : Ads} {j : Nat} {p W C : Addr}
theorem MRB.newL {S : Ms} (h : MRB K a τ H E L S) : MRB K a τ H E (newL L j p W C) S := ⟨h.e, h.i, h.r, h.f, ⟨h.n.m, fun k u e => ⟨(h.n.u k u e).o⟩, h.n.l, fun k u e => ⟨(h.n.y k u e).o⟩⟩⟩
theorem newL_A {k : Nat} (h : k ≠ j) : (newL L j p W C).A k = L.A k := if_neg h
theorem newL_W {k : Nat} (h : k ≠ j) : (newL L j p W C).W k = L.W k := if_neg h
theorem newL_C {k : Nat} (h : k ≠ j) : (newL L j p W C).C k = L.C k := if_neg h
theorem newL_lk {lk : Option Nat} (h : ∀ m, lk = some m → m ≠ j) : lkV (newL L j p W C).A lk = lkV L.A lk := by
  cases lk with
  | none => rfl
  | some m => show V.ref _ = V.ref _; rw [newL_A (h m rfl)]
theorem newL_cl {k : Nat} (h : k ≤ j) : clV (newL L j p W C).A k = clV L.A k := by
  unfold clV
  by_cases e : k = 0
  · rw [if_pos e, if_pos e]
  · rw [if_neg e, if_neg e, newL_A (by omega)]
theorem AcR.newL {k : Nat} {c : Ac} (h : AcR K a τ H L k c) (hk : k < j) (hl : ∀ m, c.lk = some m → m ≠ j) : AcR K a τ H (newL L j p W C) k c := by
  obtain ⟨dx, wa, h1, h2, h3, h4⟩ := h
  refine ⟨dx, wa, ?_, ?_, ?_, h4⟩
  · rw [newL_lk hl, newL_cl (by omega), newL_A (by omega), newL_W (by omega), newL_C (by omega)]; exact h1
  · rw [newL_W (by omega)]; exact h2
  · rw [newL_C (by omega)]; exact h3
theorem StR.newL : ∀ {st : List Ac}, st.length ≤ j → (∀ c ∈ st, ∀ m, c.lk = some m → m ≠ j) → StR K a τ H L st → StR K a τ H (newL L j p W C) st
  | [], _, _, _ => trivial
  | c :: t, hj, hl, h => ⟨h.1.newL (by simp at hj; omega) (hl c (by simp)), h.2.newL (by simp at hj; omega) (fun d m => hl d (by simp [m]))⟩
theorem clV_top {st : List Ac} (h : st.length = j) : clV L.A j = topV L st := by
  subst h
  cases st with
  | nil => rfl
  | cons c t => unfold clV; rw [if_neg (by simp)]; rfl
/-- while an activation is made -/
structure AcB (K : PySem.W.Frag) (a : Ad) (τ : Tg) (H : Hp) (E : Ev) (L : Ads) (M dm : Addr) (cur : V) (S : Ms) (st : List Ac) : Prop where
  m : At τ H M (.ins a.C_Machine dm (mcF L.mo L.lo L.ev L.fu cur .non)) (5, 0, 0)
  s : StR K a τ H L st
  b : MRB K a τ H E L S
theorem AcB.nw {M dm q : Addr} {cur : V} {S : Ms} {st : List Ac} {o : HO} {x : Nat × Nat × Nat} (h : AcB K a τ H E L M dm cur S st) (n : H q = none) : AcB K a (tgN τ q x) (upd H q o) E L M dm cur S st := ⟨h.m.new n, h.s.nw n, h.b.nw n⟩
theorem AcB.wr {M dm : Addr} {cur : V} {S : Ms} {c : Ac} {st : List Ac} {d v : Int} (h : AcB K a τ H E L M dm cur S (c :: st)) : AcB K a τ (upd H (L.W st.length) (.lst ((c.wr d v).ws.map V.int))) E L M dm cur S (c.wr d v :: st) :=
  ⟨h.m.put h.s.1.tW (by simp), ⟨h.s.1.wrS, h.s.2.put h.s.1.tW h.s.1.kW (Nat.le_refl _)⟩, h.b.put6 h.s.1.tW h.s.1.kW⟩
end
section
variable {P : Program} {w : World} {K : PySem.W.Frag} {mg : Str → Option Value} {base : Heap} {a : Ad}
theorem ok_activate (T : Txt w K mg a) : FnOk P w K mg base CX0 3 a.f_Machine_activate a.d_Machine_activate ["self", "number", "link", "arguments"] (spAct K a) := by
  have G_Activation___init__ : FnOk P w K mg base CX0 1 _ _ _ _ := ok_Activation___init__ T
  refine T.F_Machine_activate.ok sc_Machine_activate (fun vs H Q E h => ?_) (fun cdv A outer s H vs Q E hr h => ?_)
  · obtain ⟨_, _, _, _, _, _, _, _, _, _, rfl, _⟩ := h; rfl
  · obtain ⟨τ, M, Ev', L, S, o, lk, al, ws, dm, rfl, hM, hS, hB, hal, tal, hen, ho, hlw, hag, hcl, hlk, hlk2, q⟩ := h
    refine ⟨_, (pss_cons (ps_set (i := 4) sc_Machine_activate.nd rfl (Or.inl rfl) (pe_ix ix_list (pe_fld (pv 0) rfl) (pv 1) (fun _ _ => rfl)))
      (pss_cons (ps_set (i := 5) sc_Machine_activate.nd rfl (Or.inl rfl) (pe_make T.mk_Activation G_Activation___init__ (hr.mono (by decide)) rfl T.g_Activation T.bd_Activation___init__ .nil pass0 (pa_cons (pv 1) (pa_cons (pe_ix ix_tup (pe_fld (pe_fld (pv 0) rfl) rfl) (pv 1) (fun _ _ => rfl)) (pa_cons (pv 4) (pa_cons (pv 2) (pa_cons (pe_fld (pv 0) rfl) pa_nil)))))))
      (pss_cons (ps_for PassesOwn.never rfl (EZ.pi_zl (by rfl) T.b_zip (pa_cons (pe_fld (pv 4) rfl) (pa_cons (pv 3) pa_nil))) (pg_tup rfl (pgs_cons (pg_name (i := 6) sc_Machine_activate.nd rfl (Or.inl rfl)) (pgs_cons (pg_name (i := 7) sc_Machine_activate.nd rfl (Or.inl rfl)) pgs_nil))) (pss_one (ps_asg (pv 7) (pg_sub (pe_fld (pv 5) rfl) (pv 6) set_list))))
      (pss_cons (ps_for PassesOwn.never rfl (pi_tup (pe_fld (pv 4) rfl)) (pg_name (i := 6) sc_Machine_activate.nd rfl (Or.inl rfl)) (pss_one (ps_asg pe_int (pg_sub (pe_fld (pv 5) rfl) (pv 6) set_list))))
      (pss_one (ps_fld (pv 0) (pv 5) rfl)))))), ?_⟩
    have eo := Ev.at ho
    obtain ⟨dxu, ca, ra', us, ws', u1, u2, u3, u4, u5⟩ := (hB.n.u o _ eo).o
    obtain ⟨dxl, wa, ia, ea, ka, y1, y2, y3, y4, y5⟩ := (hB.n.y o _ eo).o
    obtain ⟨dmo, na, pa, mua, m1, m2, m3, m4⟩ := hB.n.m
    refine ⟨_, rfl, M, a.C_Machine, dm, _, _, rfl, hM.1, T.cl_Machine, T.n_Machine_layouts, mcF_layouts _ _ _ _ _ _, _, rfl, _, _, _, _, rfl, rfl, SqL.of hB.n.l.1, atI_nat (rng_at ho), ?_⟩
    refine ⟨_, rfl, _, rfl, M, a.C_Machine, dm, _, _, rfl, hM.1, T.cl_Machine, T.n_Machine_module, mcF_module _ _ _ _ _ _, L.mo, a.C_Module, dmo, _, _, rfl, m1.1, T.cl_Module, T.n_Module_units, mo_un _ _ _, _, rfl, _, _, _, _, rfl, rfl, m2, atI_nat (rng_at ho), _, rfl, _, rfl, _, rfl, M, a.C_Machine, dm, _, _, rfl, hM.1, T.cl_Machine, T.n_Machine_current, mcF_current _ _ _ _ _ _, ?_⟩
    refine fun x dx nx ndx ndxx => ?_
    have s1 : Same H (upd (upd H dx (.own x)) x (.ins a.C_Activation dx [])) := fun b o e => by rw [upd_ne (ne_of_none e nx), upd_ne (ne_of_none e ndx)]; exact e
    have hcr : (topV L S.st = .non ∧ ((S.st.length + 1 : Nat) : Int) = 1) ∨ ∃ (ca dxc : Addr) (n' : Int) (u' w' W' C' : Addr) (lk' cr' : V) (d' i' : Int), topV L S.st = .ref ca ∧ upd (upd H dx (.own x)) x (.ins a.C_Activation dx []) ca = some (.ins a.C_Activation dxc (acF n' u' w' W' C' lk' cr' d' i')) ∧ ca ≠ x ∧ ((S.st.length + 1 : Nat) : Int) = d' + 1 := by
      cases est : S.st with
      | nil => exact .inl ⟨rfl, rfl⟩
      | cons c t =>
        rw [est] at hS
        obtain ⟨dc, wc, g1, g2, g3, g4⟩ := hS.1
        exact .inr ⟨_, dc, _, _, _, _, _, _, _, _, _, rfl, s1 _ _ g1.1, ne_of_none g1.1 nx, by simp⟩
    refine ⟨x, dx, _, dxu, _, dxl, wa, ia, ea, ka, (o : Int), _, _, _, _, _, _, (Ev'.u o).cl, _, lkV L.A lk, topV L S.st, ((S.st.length + 1 : Nat) : Int), rfl, upd_same, s1 _ _ y1.1, s1 _ _ y3.1, s1 _ _ u1.1, hcl, hcr, fun W C H' nW nC nWC e1 e2 e3 k => ⟨rfl, ?_⟩⟩
    have s2 : Same H H' := fun b o e => k b o (s1 b o e) (ne_of_none e nx)
    have nW0 : H W = none := by
      cases e : H W with
      | none => rfl
      | some y => rw [s1 _ _ e] at nW; cases nW
    have nC0 : H C = none := by
      cases e : H C with
      | none => rfl
      | some y => rw [s1 _ _ e] at nC; cases nC
    have nxW : x ≠ W := fun z => by rw [← z, upd_same] at nW; cases nW
    have nxC : x ≠ C := fun z => by rw [← z, upd_same] at nC; cases nC
    have st4 : ∀ Z, Stp τ (tgN (tgN (tgN (tgN τ dx (0, 0, 0)) x (6, 0, S.st.length)) W (6, 1, S.st.length)) C (6, 2, S.st.length)) Z H H' := fun Z => Same.stp4 s2 ndx nx nW0 nC0
    generalize hτ : tgN (tgN (tgN (tgN τ dx (0, 0, 0)) x (6, 0, S.st.length)) W (6, 1, S.st.length)) C (6, 2, S.st.length) = τ1 at st4
    have tx : τ1 x = (6, 0, S.st.length) := by rw [← hτ, tg_ne nxC, tg_ne nxW, tg_same]
    have tW : τ1 W = (6, 1, S.st.length) := by rw [← hτ, tg_ne nWC, tg_same]
    have tC : τ1 C = (6, 2, S.st.length) := by rw [← hτ, tg_same]
    have G1 : GM K τ τ1 H H' := ⟨st4 _, KT.same s2⟩
    have ne : ∀ {lk : Option Nat}, (∀ m, lk = some m → m < S.st.length) → ∀ m, lk = some m → m ≠ S.st.length := fun h m e => by have := h m e; omega
    have B1 : AcB K a τ1 H' Ev' (newL L S.st.length x W C) M dm (topV L S.st) S (newA Ev' o lk [] :: S.st) := by
      refine ⟨hM.st (st4 []) (by simp), ⟨⟨dx, wa, ?_, ?_, ?_, ?_⟩, (hS.st (st4 []) (by simp) (KT.same s2)).newL (Nat.le_refl _) fun c m => ne (hlk c m)⟩, (hB.st (st4 []) (by simp) (by simp) (by simp) (KT.same s2)).newL⟩
      · have e4 : lkV (newL L S.st.length x W C).A lk = lkV L.A lk := newL_lk (ne hlk2)
        have e5 : clV (newL L S.st.length x W C).A S.st.length = topV L S.st := (newL_cl (Nat.le_refl _)).trans (clV_top rfl)
        have e6 : (newL L S.st.length x W C).A S.st.length = x := if_pos rfl
        have e7 : (newL L S.st.length x W C).W S.st.length = W := if_pos rfl
        have e8 : (newL L S.st.length x W C).C S.st.length = C := if_pos rfl
        show At τ1 H' ((newL L S.st.length x W C).A S.st.length) (.ins a.C_Activation dx (acF (o : Int) (L.U o) wa ((newL L S.st.length x W C).W S.st.length) ((newL L S.st.length x W C).C S.st.length) (lkV (newL L S.st.length x W C).A lk) (clV (newL L S.st.length x W C).A S.st.length) ((S.st.length + 1 : Nat) : Int) 0)) _
        rw [e4, e5, e6, e7, e8]
        exact ⟨e1, tx⟩
      · show At τ1 H' (if S.st.length = S.st.length then W else _) _ _
        rw [if_pos rfl]
        refine ⟨?_, tW⟩
        rw [e2]
        show _ = some (HO.lst ((resO ((List.range (Ev'.u o).ar).map Int.ofNat) [] (List.replicate (Ev'.u o).g 0)).map V.int))
        unfold resO
        rw [List.zip_nil_right]; rfl
      · show At τ1 H' (if S.st.length = S.st.length then C else _) _ _
        rw [if_pos rfl]
        exact ⟨e3, tC⟩
      · have : (newA Ev' o lk []).ws.length = (Ev'.u o).g := by show (resO _ [] _).length = _; unfold resO; rw [List.zip_nil_right]; simp
        rw [this]
        exact KT.same s2 _ _ y2
    have hws : ∀ ws' : List Int, (resO ((List.range (Ev'.u o).ar).map Int.ofNat) ws' (List.replicate (Ev'.u o).g 0)).length = (Ev'.u o).g := fun ws' => by rw [resO_len]; simp
    have hla : ∀ {τ2 : Tg} {H2 : Hp}, GM K τ τ2 H H2 → H2 al = some (.lst (ws.map V.int)) := fun G => (G.s.at_ hal rfl (n56 tal)).1
    have hex : ∀ {τ2 : Tg} {H2 : Hp}, GM K τ τ2 H H2 → At τ2 H2 (L.Y o) (.ins a.C_Layout dxl (lyF wa ia ea ka)) (9, 1, 0) ∧ SqT K H2 ea (rgV' (Ev'.u o).ar) ∧ SqT K H2 ka [] := fun G => ⟨y1.st G.s (by simp), G.k _ _ y4, G.k _ _ y5⟩
    refine ⟨_, rfl, _, a.C_Layout, dxl, _, _, rfl, (hex G1).1.1, T.cl_Layout, T.n_Layout_entrances, lyF_entrances _ _ _ _, _, rfl, _, _, _, _, rfl, (hex G1).2.1, SqL.of (hla G1), ?_⟩
    have hlen : (rgV' (Ev'.u o).ar).length ≤ (ws.map V.int).length := by unfold rgV'; rw [List.length_map, List.length_range, List.length_map]; omega
    refine for_zl hlen (fun i σ H2 => ∃ (τ2 : Tg) (o6 o7 : Option V), AcB K a τ2 H2 Ev' (newL L S.st.length x W C) M dm (topV L S.st) S ({ newA Ev' o lk [] with ws := resO ((List.range (Ev'.u o).ar).map Int.ofNat) (ws.take i) (List.replicate (Ev'.u o).g 0) } :: S.st) ∧ GM K τ τ2 H H2 ∧ σ = [some (.ref M), some (.int (o : Int)), some (lkV L.A lk), some (.ref al), some (.ref (L.Y o)), some (.ref x), o6, o7]) ⟨τ1, none, none, B1, G1, rfl⟩ ?_ ?_ ?_
    · rintro i σ H2 hi ⟨τ2, o6, o7, B2, G2, rfl⟩
      exact ⟨(hex G2).2.1, SqL.of (hla G2)⟩
    · rintro i x1 y1' σ H2 ex ey ⟨τ2, o6, o7, B2, G2, rfl⟩ t nt
      have hi : i < (Ev'.u o).ar := by
        have := (List.getElem?_eq_some_iff.mp ex).1
        simpa [rgV'] using this
      have ex' := (rgV_at hi).symm.trans ex
      obtain rfl := Option.some.inj ex'
      have ey' := (at_map (ys := ws) (j := i) (by omega)).symm.trans ey
      obtain rfl := Option.some.inj ey'
      have B3 := B2.nw (x := (0, 0, 0)) (o := .tup [V.int (i : Int), V.int (ws.getD i 0)]) nt
      have G3 := G2.new (x := (0, 0, 0)) (o := .tup [V.int (i : Int), V.int (ws.getD i 0)]) nt
      obtain ⟨dx3, wa3, hA3, hW3, hC3, hwa3⟩ := id B3.s.1
      have e6 : (newL L S.st.length x W C).A S.st.length = x := if_pos rfl
      rw [e6] at hA3
      have hl3 := hws (ws.take i)
      refine ⟨_, _, rfl, .inl (.inl upd_same), rfl, _, _, rfl, _, _, rfl, rfl, ?_⟩
      refine ⟨_, rfl, _, rfl, _, a.C_Activation, dx3, _, _, rfl, hA3.1, T.cl_Activation, T.n_Activation_words, acF_words _ _ _ _ _ _ _ _ _, _, rfl, _, _, _, _, rfl, rfl, hW3.1, ixN_nat (by rw [List.length_map]; show i < (resO _ _ _).length; rw [hl3]; omega), ?_⟩
      rw [set_int]
      refine ⟨_, _, _, ?_, G3.put hW3 (by simp), rfl⟩
      have B4 := B3.wr (d := (i : Int)) (v := ws.getD i 0)
      have ew : ({ newA Ev' o lk [] with ws := resO ((List.range (Ev'.u o).ar).map Int.ofNat) (ws.take (i + 1)) (List.replicate (Ev'.u o).g 0) } : Ac) = Ac.wr { newA Ev' o lk [] with ws := resO ((List.range (Ev'.u o).ar).map Int.ofNat) (ws.take i) (List.replicate (Ev'.u o).g 0) } (i : Int) (ws.getD i 0) := by
        unfold Ac.wr
        rw [resO_snoc _ (by simp; exact hi) (by omega)]
        have : (((List.range (Ev'.u o).ar).map Int.ofNat).getD i 0).toNat = i := by simp [List.getD, hi]
        rw [this]; rfl
      rw [ew]
      exact B4
    · rintro σ H2 ⟨τ2, o6, o7, B2, G2, rfl⟩
      have hlr : (rgV' (Ev'.u o).ar).length = ws.length := by unfold rgV'; rw [List.length_map, List.length_range]; omega
      rw [hlr, List.take_length] at B2
      have B2 : AcB K a τ2 H2 Ev' (newL L S.st.length x W C) M dm (topV L S.st) S (newA Ev' o lk ws :: S.st) := B2
      refine ⟨_, rfl, _, a.C_Layout, dxl, _, _, rfl, (hex G2).1.1, T.cl_Layout, T.n_Layout_cleared, lyF_cleared _ _ _ _, _, rfl, ⟨_, (hex G2).2.2⟩, ?_⟩
      refine for_tup (K := K) (a := ka) (xs := []) (fun i σ H' => H2 = H' ∧ ∃ o6 o7 : Option V, σ = [some (.ref M), some (.int (o : Int)), some (lkV L.A lk), some (.ref al), some (.ref (L.Y o)), some (.ref x), o6, o7]) ⟨rfl, o6, o7, rfl⟩ (fun i σ H1 _ h => by rw [← h.1]; exact (hex G2).2.2) (fun i x σ H1 e _ => by cases e) ?_
      rintro σ H' ⟨rfl, o6, o7, rfl⟩
      refine ⟨_, rfl, _, rfl, M, a.C_Machine, dm, _, rfl, B2.m.1, T.cl_Machine, T.n_Machine_current, (Nat.le_of_ble_eq_true rfl), ?_⟩
      rw [mcF_put_current]
      have kM : ∀ o, KT K H2 (upd H2 M o) := fun o => KT.putI B2.m.1
      refine q τ2 _ (newL L S.st.length x W C) ⟨⟨dm, _, _, .set B2.m.2, fun _ => ⟨?_, rfl, by simp⟩, fun e z => by rw [show S.en = some e from z] at hen; cases hen⟩, B2.s.put5 B2.m.2 (kM _), (B2.b.putM B2.m.2 (kM _)).of rfl rfl rfl⟩ rfl (G2.putI B2.m (by simp))
      show V.ref x = V.ref (if (newA Ev' o lk ws :: S.st).length - 1 = S.st.length then x else _)
      rw [if_pos (by simp)]
end

/-! ### call and return -/
section
variable {K : PySem.W.Frag} {a : Ad} {τ : Tg} {H : Hp} {L : Ads} {j : Nat} {c : Ac}
theorem lc_vals (hb : AcR K a τ H L j c) {pa : Addr} {ys : List V} {xs : List Op} (ha1 : SqT K H pa ys) (ha2 : DTs K H ys (xs.map opD)) (ov : ∀ x ∈ xs, In.OpOk c.ws.length x) (lx : xs.length ≤ 100) {σ : St} {s : Nat} {vs : List Nat} {Qd : Hp → Prop} {D : Addr} (nD : H D = none)
    (hσ : ∀ v, ((wipe σ vs).set s (some v))[1]? = some (some (.ref (L.A j))) ∧ ((wipe σ vs).set s (some v))[s]? = some (some v) ∧ wipe ((wipe σ vs).set s (some v)) vs = wipe σ vs)
    (q : Qd (upd H D (.lst ((xs.map c.val).map V.int)))) :
    ∃ W : Nat → Nat → Hp → Prop, (∃ m, W 0 m (upd H D (.lst []))) ∧ ∀ i m H, W i m H →
      ((Itt K pa).stop i H ∧ Qd H) ∨ ((Itt K pa).go i H ∧ ∃ Nx : Hp → Prop, (∀ H', Nx H' → ∃ m', m' < m ∧ W (i + 1) m' H') ∧ ∀ x H', (Itt K pa).yld i H x H' → gName s x (wipe σ vs) H' fun σ2 H2 => wipe σ2 vs = wipe σ vs ∧ tYes σ2 H2 fun b H3 =>
        if b = true then tMeth a.C_Activation "value" (spVal K a) [] E0 (tVar 1) (tCons (tVar s) tNil) σ2 H3 fun y H4 => ∃ acc, H4 D = some (.lst acc) ∧ acc.length < sizeLine ∧ Nx (upd H4 D (.lst (acc ++ [y]))) else Nx H3) := by
  have ly := ha2.len
  rw [List.length_map] at ly
  have sm : ∀ l, Same H (upd H D (.lst l)) := fun l => sN (Same.refl H) nD
  refine lc_it (walk_tup (K := K) (a := pa) (xs := ys)) (fun i H' => H' = upd H D (.lst (((xs.take i).map c.val).map V.int))) rfl (fun i H' _ e => by rw [e]; exact KT.same (sm _) _ _ ha1) ?_ ?_
  · rintro i x H1 H2 hi rfl ⟨rfl, ex⟩
    obtain ⟨h1, h2, h3⟩ := hσ x
    have hx : i < xs.length := by omega
    obtain ⟨d, ed, dd⟩ := ha2.at ex
    rw [List.getElem?_map, List.getElem?_eq_getElem hx] at ed
    obtain rfl := Option.some.inj ed
    have hb' : AcR K a τ (upd H D (.lst (((xs.take i).map c.val).map V.int))) L j c := hb.st (Z := []) (.same (sm _)) (by simp) (.same (sm _))
    obtain ⟨dx, wa, hA, hW, hC, hwa⟩ := id hb'
    refine ⟨h3, ?_⟩
    simp only [tYes, if_true]
    refine ⟨_, h1, _, _, _, rfl, hA.1, acF_no_value _ _ _ _ _ _ _ _ _, _, h2, τ, L, j, c, x, xs[i], rfl, hb', dd.keep (.same (sm _)), ov _ (List.getElem_mem hx), ?_⟩
    refine ⟨_, upd_same, by rw [List.length_map, List.length_map, List.length_take]; exact Nat.lt_of_le_of_lt (Nat.min_le_right _ _) (small1000 (by omega)), ?_⟩
    rw [upd_upd, List.take_succ, List.getElem?_eq_getElem hx, List.map_append, List.map_append]; rfl
  · rintro H1 rfl
    rw [ly, List.take_length]
    exact q
end
section
variable {P : Program} {w : World} {K : PySem.W.Frag} {mg : Str → Option Value} {base : Heap} {a : Ad}
theorem ok_do_call (T : Txt w K mg a) : FnOk P w K mg base CX0 4 a.f_do_call a.d_do_call ["machine", "activation", "instruction"] (spDo K a (fun i => ∃ o h xs rs p, i = .ca o h xs rs p)) := by
  have G_Activation_value : FnOk P w K mg base CX0 1 _ _ _ _ := ok_value T
  have G_Activation_outward : FnOk P w K mg base CX0 1 _ _ _ _ := ok_outward T
  have G_Machine_raise_exception : FnOk P w K mg base CX0 2 _ _ _ _ := ok_raise_exception T
  have G_Machine_activate : FnOk P w K mg base CX0 3 _ _ _ _ := ok_activate T
  refine T.F__do_call.ok sc_do_call (fun vs H Q E h => ?_) (fun cdv A outer s H vs Q E hr h => ?_)
  · obtain ⟨_, _, _, _, _, _, _, _, _, rfl, _⟩ := h; rfl
  · obtain ⟨τ, M, Ev', L, S, b, r, v, i, rfl, pi, dv, R, hen, est, ok, hu, ao, q⟩ := h
    refine ⟨_, (pss_cons (ps_asg (pv 2) (pg_tup rfl (pgs_cons (pg_name (i := 3) sc_do_call.nd rfl (Or.inl rfl)) (pgs_cons (pg_name (i := 4) sc_do_call.nd rfl (Or.inl rfl)) (pgs_cons (pg_name (i := 5) sc_do_call.nd rfl (Or.inl rfl)) (pgs_cons (pg_name (i := 6) sc_do_call.nd rfl (Or.inl rfl)) (pgs_cons (pg_name (i := 3) sc_do_call.nd rfl (Or.inl rfl)) (pgs_cons (pg_name (i := 7) sc_do_call.nd rfl (Or.inl rfl)) pgs_nil))))))))
      (pss_one (ps_if (pt_cmpR op_eq (pe_fld (pv 1) rfl) (pe_glob (v := .int (10)) rfl T.g_DEPTH_LIMIT ⟨_, rfl⟩) (nomark _)) (pss_one (ps_expr (pe_meth (pv 0) T.cl_Machine T.m_Machine_raise_exception G_Machine_raise_exception (hr.mono (by decide)) T.bd_Machine_raise_exception .nil pass0 (pa_cons (pe_glob (v := .int (2)) rfl T.g_STORAGE ⟨_, rfl⟩) (pa_cons (pv 7) pa_nil))))) (pss_cons (ps_setLc (i := 8) (own := [("argument", 9)]) (g := gName 9) rfl sc_do_call.nd rfl rfl (sw_true rfl rfl rfl (by decide +kernel)) (pi_tup (pv 6)) (blkOk_by (own := [("argument", 9)]) (N := ["machine", "activation", "instruction", "_", "number", "hops", "arguments", "place", "words", "argument"]) (sc := defScope s_do_call) (by decide +kernel)) (fun _ _ _ _ _ => pg_name (i := 9) sc_do_call.nd rfl (Or.inl rfl)) (fun _ _ _ _ _ => pts_nil) (fun _ _ _ _ _ => (pe_meth (pv 1) T.cl_Activation T.m_Activation_value G_Activation_value (hr.mono (by decide)) T.bd_Activation_value .nil pass0 (pa_cons (pv 9) pa_nil))))
      (pss_one (ps_expr (pe_meth (pv 0) T.cl_Machine T.m_Machine_activate G_Machine_activate (hr.mono (by decide)) T.bd_Machine_activate .nil pass0 (pa_cons (pv 4) (pa_cons (pe_meth (pv 1) T.cl_Activation T.m_Activation_outward G_Activation_outward (hr.mono (by decide)) T.bd_Activation_outward .nil pass0 (pa_cons (pv 5) pa_nil)) (pa_cons (pv 8) pa_nil)))))))))), ?_⟩
    obtain ⟨hb, hr2⟩ := R.top est
    obtain ⟨dx, wa, hA, hW, hC, hwa⟩ := id hb
    obtain ⟨dm, cur, en, hM, hrun, hend⟩ := id R.m.m
    obtain ⟨ecur, een, hne⟩ := hrun hen
    subst een
    obtain ⟨o, h, xs, rs, p, rfl⟩ := pi
    obtain ⟨ov, lx, o0, o1, h0, h1, lar, arg', lcl, hlk, ao⟩ := ao
    obtain ⟨pb, zs, rfl, hp1, hp2⟩ := DT.ts dv
    obtain ⟨v0, r0, rfl, d0, hp2⟩ := hp2.un
    obtain ⟨v1, r1, rfl, d1, hp2⟩ := hp2.un
    obtain ⟨v2, r2, rfl, d2, hp2⟩ := hp2.un
    obtain ⟨v3, r3, rfl, d3, hp2⟩ := hp2.un
    obtain ⟨v4, r4, rfl, d4, hp2⟩ := hp2.un
    obtain ⟨v5, r5, rfl, d5, hp2⟩ := hp2.un
    cases hp2.em
    cases d1.i
    cases d2.i
    cases d5.i
    obtain ⟨h, rfl⟩ := Int.eq_ofNat_of_zero_le h0
    obtain ⟨o, rfl⟩ := Int.eq_ofNat_of_zero_le o0
    obtain ⟨pa, ys, rfl, ha1, ha2⟩ := d3.ts
    refine ⟨_, rfl, _, _, rfl, hp1, rfl, _, _, rfl, _, _, rfl, _, _, rfl, _, _, rfl, _, _, rfl, _, _, rfl, rfl, ?_⟩
    refine ⟨_, rfl, _, a.C_Activation, dx, _, _, rfl, hA.1, T.cl_Activation, T.n_Activation_depth, acF_depth _ _ _ _ _ _ _ _ _, rfl, _, rfl, ite3 (fun e => ?_) (fun e => ?_)⟩
    · have e : r.length + 1 = 10 := by
        have : ((r.length + 1 : Nat) : Int) = 10 := by simpa using e
        omega
      rw [if_pos e] at ao
      refine ⟨_, rfl, _, _, _, rfl, hM.1, mcF_no_raise_exception _ _ _ _ _ _, _, rfl, rai_go (E1 := E0) R hen est ok hu ao fun τ' H' R' G' => q τ' H' L ?_ rfl G'⟩
      have : actB Ev' S b r (.ca (o : Int) (h : Int) xs rs p) = raiseS Ev' { S with st := b :: r } 2 p := if_pos e
      rw [this]; exact R'
    · have e : ¬ r.length + 1 = 10 := fun z => by
        rw [z] at e
        simp at e
      rw [if_neg e] at ao
      obtain ⟨j, ej⟩ := ao
      refine ⟨_, rfl, pa, rfl, ⟨_, ha1⟩, fun D nD => ?_⟩
      refine lc_vals (σ := [some (.ref M), some (.ref (L.A r.length)), some (.ref pb), some v4, some (.int (o : Int)), some (.int (h : Int)), some (.ref pa), some (.int p), none, none]) (s := 9) (vs := [9]) hb ha1 ha2 ov lx nD (fun v => ⟨rfl, rfl, rfl⟩) ?_
      have R1 := (R.q0 est).nw (x := (0, 0, 0)) (o := .lst ((xs.map b.val).map V.int)) nD
      have G1 : GM K τ (tgN τ D (0, 0, 0)) H _ := GM.refl.new (x := (0, 0, 0)) (o := .lst ((xs.map b.val).map V.int)) nD
      have hM1 := hM.new (y := (0, 0, 0)) (u := .lst ((xs.map b.val).map V.int)) nD
      obtain ⟨hb1, hr1⟩ := R1.top (S := { S with st := b :: r }) rfl
      obtain ⟨dx1, wa1, hA1, hW1, hC1, hwa1⟩ := id hb1
      have jl : j < r.length + 1 := by
        have : ∀ (h j' : Nat), outw (b :: r) h j' = some j → j < r.length + 1 := fun h => by
          induction h with
          | zero => intro j' e; unfold outw at e; split at e
                    · injection e with e; subst e; simpa using ‹j' < (b :: r).length›
                    · cases e
          | succ h ih =>
            intro j' e
            unfold outw at e
            split at e
            · split at e
              · exact ih _ e
              · cases e
            · cases e
        exact this _ _ ej
      have ec : cur = topV L (b :: r) := by rw [ecur, est]; rfl
      subst ec
      refine ⟨_, rfl, _, _, _, rfl, hM1.1, mcF_no_activate _ _ _ _ _ _, _, rfl, _, rfl, _, _, _, rfl, hA1.1, acF_no_outward _ _ _ _ _ _ _ _ _, _, rfl, _, L, b :: r, h, r.length, j, rfl, ⟨hb1, hr1⟩, ej, by omega, _, rfl, ?_⟩
      refine ⟨_, M, Ev', L, { S with st := b :: r }, o, some j, D, xs.map b.val, dm, rfl, hM1, ⟨hb1, hr1⟩, R1.b, upd_same, by rw [tg_same]; decide, hen, by omega, by rw [List.length_map]; exact lar, arg', lcl, hlk, fun m e => by injection e with e; subst e; exact jl, fun τ' H' L' R' eY G' => q τ' H' L' ?_ eY (G1.tr G')⟩
      have : actB Ev' S b r (.ca (o : Int) (h : Int) xs rs p) = { S with st := newA Ev' o (some j) (xs.map b.val) :: b :: r } := by
        unfold actB; dsimp only
        rw [if_neg e, ej]; rfl
      rw [this]; exact R'
theorem ok_do_return (T : Txt w K mg a) : FnOk P w K mg base CX0 4 a.f_do_return a.d_do_return ["machine", "activation", "instruction"] (spDo K a (fun i => ∃ xs, i = .re xs)) := by
  have G_Activation_value : FnOk P w K mg base CX0 1 _ _ _ _ := ok_value T
  have G_Activation_write : FnOk P w K mg base CX0 1 _ _ _ _ := ok_write T
  refine T.F__do_return.ok sc_do_return (fun vs H Q E h => ?_) (fun cdv A outer s H vs Q E hr h => ?_)
  · obtain ⟨_, _, _, _, _, _, _, _, _, rfl, _⟩ := h; rfl
  · obtain ⟨τ, M, Ev', L, S, b, r, v, i, rfl, pi, dv, R, hen, est, ok, hu, ao, q⟩ := h
    refine ⟨_, (pss_cons (ps_setLc (i := 3) (own := [("operand", 4)]) (g := gName 4) rfl sc_do_return.nd rfl rfl (sw_true rfl rfl rfl (by decide +kernel)) (pi_tup (pe_ix ix_tup (pv 2) pe_int (fun _ _ => rfl))) (blkOk_by (own := [("operand", 4)]) (N := ["machine", "activation", "instruction", "words", "operand", "caller", "results", "target", "word"]) (sc := defScope s_do_return) (by decide +kernel)) (fun _ _ _ _ _ => pg_name (i := 4) sc_do_return.nd rfl (Or.inl rfl)) (fun _ _ _ _ _ => pts_nil) (fun _ _ _ _ _ => (pe_meth (pv 1) T.cl_Activation T.m_Activation_value G_Activation_value (hr.mono (by decide)) T.bd_Activation_value .nil pass0 (pa_cons (pv 4) pa_nil))))
      (pss_cons (ps_set (i := 5) sc_do_return.nd rfl (Or.inl rfl) (pe_fld (pv 1) rfl))
      (pss_cons (ps_fld (pv 0) (pv 5) rfl)
      (pss_one (ps_if (pt_cmpR op_isN (pv 5) pe_non (nomark _)) (pss_one (ps_fld (pv 0) (pe_glob (v := .ref a.c_NORMAL) rfl T.g_NORMAL rfl) rfl)) (pss_cons (ps_set (i := 6) sc_do_return.nd rfl (Or.inl rfl) (pe_ix ix_tup (pe_ix ix_tup (pe_fld (pe_fld (pv 5) rfl) rfl) (pe_op op_sub (pe_fld (pv 5) rfl) pe_int) (fun _ _ => rfl)) pe_int (fun _ _ => rfl)))
      (pss_one (ps_for PassesOwn.never rfl (EZ.pi_zl (by rfl) T.b_zip (pa_cons (pv 6) (pa_cons (pv 3) pa_nil))) (pg_tup rfl (pgs_cons (pg_name (i := 7) sc_do_return.nd rfl (Or.inl rfl)) (pgs_cons (pg_name (i := 8) sc_do_return.nd rfl (Or.inl rfl)) pgs_nil))) (pss_one (ps_expr (pe_meth (pv 5) T.cl_Activation T.m_Activation_write G_Activation_write (hr.mono (by decide)) T.bd_Activation_write .nil pass0 (pa_cons (pv 7) (pa_cons (pv 8) pa_nil))))))))))))), ?_⟩
    obtain ⟨hb, hr2⟩ := R.top est
    obtain ⟨dx, wa, hA, hW, hC, hwa⟩ := id hb
    obtain ⟨dm, cur, en, hM, hrun, hend⟩ := id R.m.m
    obtain ⟨ecur, een, hne⟩ := hrun hen
    subst een
    obtain ⟨xs, rfl⟩ := pi
    obtain ⟨ov, lx, ao⟩ := ao
    obtain ⟨pb, zs, rfl, hp1, hp2⟩ := DT.ts dv
    obtain ⟨v0, r0, rfl, d0, hp2⟩ := hp2.un
    obtain ⟨v1, r1, rfl, d1, hp2⟩ := hp2.un
    cases hp2.em
    obtain ⟨pa, ys, rfl, ha1, ha2⟩ := d1.ts
    refine ⟨_, rfl, _, _, _, _, rfl, rfl, hp1, rfl, pa, rfl, ⟨_, ha1⟩, fun D nD => ?_⟩
    refine lc_vals (σ := [some (.ref M), some (.ref (L.A r.length)), some (.ref pb), none, none, none, none, none, none]) (s := 4) (vs := [4]) hb ha1 ha2 ov lx nD (fun v => ⟨rfl, rfl, rfl⟩) ?_
    have R1 := (R.q0 est).nw (x := (0, 0, 0)) (o := .lst ((xs.map b.val).map V.int)) nD
    have G1 : GM K τ (tgN τ D (0, 0, 0)) H _ := GM.refl.new (x := (0, 0, 0)) (o := .lst ((xs.map b.val).map V.int)) nD
    have hM1 := hM.new (y := (0, 0, 0)) (u := .lst ((xs.map b.val).map V.int)) nD
    have hD1 : At (tgN τ D (0, 0, 0)) (upd H D (.lst ((xs.map b.val).map V.int))) D (.lst ((xs.map b.val).map V.int)) (0, 0, 0) := .mk
    generalize upd H D (.lst ((xs.map b.val).map V.int)) = H1 at R1 G1 hM1 hD1
    generalize tgN τ D (0, 0, 0) = τ1 at R1 G1 hM1 hD1
    obtain ⟨hb1, hr1⟩ := R1.top (S := { S with st := b :: r }) rfl
    obtain ⟨dx1, wa1, hA1, hW1, hC1, hwa1⟩ := id hb1
    refine ⟨_, rfl, _, a.C_Activation, dx1, _, _, rfl, hA1.1, T.cl_Activation, T.n_Activation_caller, acF_caller _ _ _ _ _ _ _ _ _, ?_⟩
    refine ⟨_, rfl, _, rfl, M, a.C_Machine, dm, _, rfl, hM1.1, T.cl_Machine, T.n_Machine_current, (Nat.le_of_ble_eq_true rfl), ?_⟩
    rw [mcF_put_current]
    have hM2 : At τ1 (upd H1 M (.ins a.C_Machine dm (mcF L.mo L.lo L.ev L.fu (clV L.A r.length) .non))) M _ (5, 0, 0) := .set hM1.2
    have G2 := G1.putI (o := .ins a.C_Machine dm (mcF L.mo L.lo L.ev L.fu (clV L.A r.length) .non)) hM1 (by simp)
    refine ⟨_, rfl, rfl, _, rfl, ?_⟩
    cases r with
    | nil =>
      refine iteT ⟨_, rfl, M, a.C_Machine, dm, _, rfl, hM2.1, T.cl_Machine, T.n_Machine_ending, (Nat.le_of_ble_eq_true rfl), ?_⟩
      rw [mcF_put_ending, upd_upd]
      refine q τ1 _ L ?_ rfl (G1.putI hM1 (by simp))
      exact R1.setE hM1 (z := .norm) (.tup (T.q_NORMAL H1) (.cons (.str _) .nil))
    | cons c r' =>
      refine iteF ?_
      obtain ⟨hcu, hci, o, h, ys', rs, p, ein, lrs, hrs⟩ := ao
      obtain ⟨hc1, hr1'⟩ := id hr1
      have kM : ∀ o, KT K H1 (upd H1 M o) := fun o => KT.putI hM1.1
      have ecl : clV L.A (c :: r').length = .ref (L.A r'.length) := by unfold clV; rw [if_neg (by simp)]; rfl
      rw [ecl] at hM2 G2
      rw [ecl]
      have B2 : AcB K a τ1 (upd H1 M (.ins a.C_Machine dm (mcF L.mo L.lo L.ev L.fu (.ref (L.A r'.length)) .non))) Ev' L M dm (.ref (L.A r'.length)) S (c :: r') := ⟨hM2, hr1.put5 hM1.2 (kM _), (R1.b.putM hM1.2 (kM _)).of rfl rfl rfl⟩
      have hD2 := hD1.put (u := .ins a.C_Machine dm (mcF L.mo L.lo L.ev L.fu (.ref (L.A r'.length)) .non)) hM1.2 (by simp)
      generalize upd H1 M (.ins a.C_Machine dm (mcF L.mo L.lo L.ev L.fu (.ref (L.A r'.length)) .non)) = H2 at B2 hM2 G2 hD2
      obtain ⟨dc, wc, hA2, hW2, hC2, hwc2⟩ := id B2.s.1
      obtain ⟨dxu, ca, ra', us, ws', u1, u2, u3, u4, u5⟩ := (B2.b.n.u c.u _ (Ev.at hcu)).o
      obtain ⟨vi, evi, dvi⟩ := u3.it (c.i - 1) (d := In.D (.ca o h ys' rs p)) (by rw [List.getElem?_map, ein]; rfl)
      obtain ⟨pi', is', rfl, hi1, hi2⟩ := dvi.ts
      obtain ⟨v4, e4, d4⟩ := hi2.it 4 (d := .tuple (rs.map .int)) rfl
      obtain ⟨pr, rs', rfl, hr1, hr2'⟩ := d4.ts
      obtain rfl := DTs.ints hr2'
      have ei : (c.i : Int) - 1 = ((c.i - 1 : Nat) : Int) := by omega
      refine ⟨_, rfl, _, a.C_Activation, dc, _, _, rfl, hA2.1, T.cl_Activation, T.n_Activation_unit, acF_unit _ _ _ _ _ _ _ _ _, _, a.C_Unit, dxu, _, _, rfl, u1.1, T.cl_Unit, T.n_Unit_code, un_cd _ _ _ _ _ _ _, _, rfl, _, a.C_Activation, dc, _, _, rfl, hA2.1, T.cl_Activation, T.n_Activation_index, acF_index _ _ _ _ _ _ _ _ _, _, _, rfl, rfl, _, _, _, _, rfl, rfl, u2, (by rw [ei]; exact evi), _, _, _, _, rfl, rfl, hi1, e4, ?_⟩
      have hD3 : ∀ {τ3 : Tg} {H3 : Hp}, Stp τ1 τ3 [6] H2 H3 → H3 D = some (.lst ((xs.map b.val).map V.int)) := fun t => (t.at_ hD2.1 hD2.2 (by simp)).1
      refine ⟨_, rfl, _, rfl, _, _, _, _, rfl, hr1, SqL.of hD2.1, ?_⟩
      have hlen : (rs.map V.int).length ≤ ((xs.map b.val).map V.int).length := by rw [List.length_map, List.length_map, List.length_map]; omega
      refine for_zl hlen (fun i σ H3 => ∃ (τ3 : Tg) (o7 o8 : Option V), AcB K a τ3 H3 Ev' L M dm (.ref (L.A r'.length)) S ({ c with ws := resO rs ((xs.map b.val).take i) c.ws } :: r') ∧ Stp τ1 τ3 [6] H2 H3 ∧ KT K H2 H3 ∧ σ = [some (.ref M), some (.ref (L.A (c :: r').length)), some (.ref pb), some (.ref D), none, some (.ref (L.A r'.length)), some (.ref pr), o7, o8]) ⟨τ1, none, none, ?_, Stp.refl, fun _ _ h => h, rfl⟩ ?_ ?_ ?_
      · rw [List.take_zero]
        unfold resO; rw [List.zip_nil_right]; exact B2
      · rintro i σ H3 hi ⟨τ3, o7, o8, B3, s3, k3, rfl⟩
        exact ⟨k3 _ _ hr1, SqL.of (hD3 s3)⟩
      · rintro i x1 y1 σ H3 ex ey ⟨τ3, o7, o8, B3, s3, k3, rfl⟩ t nt
        have hi : i < rs.length := by
          have := (List.getElem?_eq_some_iff.mp ex).1
          simpa using this
        obtain rfl := Option.some.inj ((at_map (ys := rs) hi).symm.trans ex)
        obtain rfl := Option.some.inj ((at_map (ys := xs.map b.val) (j := i) (by simp; omega)).symm.trans ey)
        have B4 := B3.nw (x := (0, 0, 0)) (o := .tup [V.int (rs.getD i 0), V.int ((xs.map b.val).getD i 0)]) nt
        have s4 := s3.new (x := (0, 0, 0)) (o := .tup [V.int (rs.getD i 0), V.int ((xs.map b.val).getD i 0)]) nt
        have k4 := k3.tr (KT.new (o := .tup [V.int (rs.getD i 0), V.int ((xs.map b.val).getD i 0)]) nt)
        obtain ⟨dx4, wa4, hA4, hW4, hC4, hwa4⟩ := id B4.s.1
        have hw := hrs (rs.getD i 0) (by rw [List.getD_eq_getElem?_getD, List.getElem?_eq_getElem hi]; exact List.getElem_mem hi)
        refine ⟨_, _, rfl, .inl (.inl upd_same), rfl, _, _, rfl, _, _, rfl, rfl, ?_⟩
        refine ⟨_, rfl, _, _, _, rfl, hA4.1, acF_no_write _ _ _ _ _ _ _ _ _, _, rfl, _, rfl, _, L, r'.length, _, rs.getD i 0, (xs.map b.val).getD i 0, rfl, B4.s.1, hw.1, by rw [resO_len]; exact hw.2, ?_⟩
        refine ⟨_, _, _, ?_, s4.put (by rw [hW4.2]; simp), k4.tr (KT.put hW4.1), rfl⟩
        have ew : ({ c with ws := resO rs ((xs.map b.val).take (i + 1)) c.ws } : Ac) = Ac.wr { c with ws := resO rs ((xs.map b.val).take i) c.ws } (rs.getD i 0) ((xs.map b.val).getD i 0) := by
          unfold Ac.wr
          rw [resO_snoc _ hi (by simp; omega)]
        rw [ew]
        exact B4.wr
      · rintro σ H3 ⟨τ3, o7, o8, B3, s3, k3, rfl⟩
        rw [show (rs.map V.int).length = (xs.map b.val).length by simp; omega, List.take_length] at B3
        refine q τ3 H3 L ?_ rfl (G2.tr ⟨s3.mono (by simp), k3⟩)
        have : actB Ev' S b (c :: r') (.re xs) = { S with st := { c with ws := resO rs (xs.map b.val) c.ws } :: r' } := by
          unfold actB; dsimp only
          rw [List.getD_eq_getElem?_getD, ein]; rfl
        rw [this]
        exact ⟨⟨⟨dm, _, _, B3.m, fun _ => ⟨rfl, rfl, by simp⟩, fun e z => by rw [show S.en = some e from z] at hen; cases hen⟩⟩, B3.s, B3.b.of rfl rfl rfl⟩
end

/-! ### a step -/
def StepOk (E : Ev) (S : Ms) : Prop := ∃ a r x, S.st = a :: r ∧ EvOk E ∧ (∀ c ∈ S.st, c.u < E.us.length) ∧ (E.u a.u).xs[a.i]? = some x ∧ ActOk E { S with st := a.nx :: r } a.nx r x
def spStep (K : PySem.W.Frag) (a : Ad) : Sp := fun vs H Q _ => ∃ (τ : Tg) (M : Addr) (E : Ev) (L : Ads) (S : Ms), vs = [.ref M] ∧ MRA K a τ H E L M S ∧ S.en = none ∧ StepOk E S ∧
  ∀ (τ' : Tg) (H' : Hp) (L' : Ads), MRA K a τ' H' E L' M (stepS E S) → L'.Y = L.Y → GM K τ τ' H H' → Q .non H'
section
variable {P : Program} {w : World} {K : PySem.W.Frag} {mg : Str → Option Value} {base : Heap} {a : Ad}
theorem atI0 {v : V} {r : List V} : atI (v :: r) 0 = some v := atI_nat (j := 0) rfl
theorem kdB (T : Txt w K mg a) : ∀ k : _root_.Fin 6, KDct K w a.c_ACTIONS (nmB k.val) (.ref a.f_do_arithmetic)
  | 0 => T.kd_ACTIONS_add
  | 1 => T.kd_ACTIONS_sub
  | 2 => T.kd_ACTIONS_mul
  | 3 => T.kd_ACTIONS_div
  | 4 => T.kd_ACTIONS_mod
  | 5 => T.kd_ACTIONS_rem
theorem kdU (T : Txt w K mg a) : ∀ k : Bool, KDct K w a.c_ACTIONS (nmU k) (.ref a.f_do_sign)
  | true => T.kd_ACTIONS_abs
  | false => T.kd_ACTIONS_neg
theorem kdC (T : Txt w K mg a) : ∀ k : Bool, KDct K w a.c_ACTIONS (nmC k) (.ref a.f_do_compare)
  | true => T.kd_ACTIONS_equal
  | false => T.kd_ACTIONS_less
theorem ok_step (T : Txt w K mg a) : FnOk P w K mg base CX0 8 a.f_Machine_step a.d_Machine_step ["self"] (spStep K a) := by
  have G_do_tick : FnOk P w K mg base CX0 4 _ _ _ _ := ok_do_tick T
  have G_do_move : FnOk P w K mg base CX0 2 _ _ _ _ := ok_do_move T
  have G_do_sign : FnOk P w K mg base CX0 4 _ _ _ _ := ok_do_sign T
  have G_do_arithmetic : FnOk P w K mg base CX0 6 _ _ _ _ := ok_do_arithmetic T
  have G_do_compare : FnOk P w K mg base CX0 6 _ _ _ _ := ok_do_compare T
  have G_do_check : FnOk P w K mg base CX0 3 _ _ _ _ := ok_do_check T
  have G_do_load : FnOk P w K mg base CX0 2 _ _ _ _ := ok_do_load T
  have G_do_store : FnOk P w K mg base CX0 2 _ _ _ _ := ok_do_store T
  have G_do_jump : FnOk P w K mg base CX0 1 _ _ _ _ := ok_do_jump T
  have G_do_branch : FnOk P w K mg base CX0 2 _ _ _ _ := ok_do_branch T
  have G_do_call : FnOk P w K mg base CX0 4 _ _ _ _ := ok_do_call T
  have G_do_return : FnOk P w K mg base CX0 4 _ _ _ _ := ok_do_return T
  have G_do_raise : FnOk P w K mg base CX0 3 _ _ _ _ := ok_do_raise T
  have G_do_again : FnOk P w K mg base CX0 3 _ _ _ _ := ok_do_again T
  have G_do_put : FnOk P w K mg base CX0 2 _ _ _ _ := ok_do_put T
  have G_do_get : FnOk P w K mg base CX0 4 _ _ _ _ := ok_do_get T
  refine T.F_Machine_step.ok sc_Machine_step (fun vs H Q E h => ?_) (fun cdv A outer s H vs Q E hr h => ?_)
  · obtain ⟨_, _, _, _, _, rfl, _⟩ := h; rfl
  · obtain ⟨τ, M, Ev', L, S, rfl, R, hen, ⟨b, r, x, est, ok, hu, ex, ao⟩, q⟩ := h
    obtain ⟨hb, hr2⟩ := R.top est
    obtain ⟨dx, wa, hA, hW, hC, hwa⟩ := id hb
    obtain ⟨dm, cur, en, hM, hrun, hend⟩ := id R.m.m
    obtain ⟨ecur, een, hne⟩ := hrun hen
    subst een
    have ec : cur = .ref (L.A r.length) := by rw [ecur, est]; rfl
    subst ec
    obtain ⟨dxu, ca, ra', us, ws', u1, u2, u3, u4, u5⟩ := (R.b.n.u b.u _ (Ev.at (hu b (by rw [est]; simp)))).o
    obtain ⟨vi, evi, dvi⟩ := u3.it b.i (d := x.D) (by rw [List.getElem?_map, ex]; rfl)
    obtain ⟨pi', is', rfl, hi1, hi2⟩ := dvi.ts
    obtain ⟨v0, r0, rfl, d0, hi2⟩ := hi2.un
    cases d0.s
    have R1 := R.w6 hen est hA.2 hb.kA (hb.setI (i := b.i + 1) hA.1)
    have G1 : GM K τ τ H _ := GM.refl.putI (o := .ins a.C_Activation dx (acF b.u (L.U b.u) wa (L.W r.length) (L.C r.length) (lkV L.A b.lk) (clV L.A r.length) (((r.length + 1 : Nat) : Int)) ((b.i + 1 : Nat) : Int))) hA (by simp)
    have D1 : DT K _ (.ref pi') x.D := dvi.keep (hb.kA (o := .ins a.C_Activation dx (acF b.u (L.U b.u) wa (L.W r.length) (L.C r.length) (lkV L.A b.lk) (clV L.A r.length) (((r.length + 1 : Nat) : Int)) ((b.i + 1 : Nat) : Int))))
    have hi3 := hb.kA (o := .ins a.C_Activation dx (acF b.u (L.U b.u) wa (L.W r.length) (L.C r.length) (lkV L.A b.lk) (clV L.A r.length) (((r.length + 1 : Nat) : Int)) ((b.i + 1 : Nat) : Int))) _ _ hi1
    have es : stepS Ev' S = actB Ev' { S with st := b.nx :: r } b.nx r x := by
      unfold stepS
      rw [est]; dsimp only
      rw [List.getD_eq_getElem?_getD, ex]; rfl
    rw [es] at q
    cases x with
    | ti  =>
      refine ⟨_, (pss_cons (ps_set (i := 1) sc_Machine_step.nd rfl (Or.inl rfl) (pe_fld (pv 0) rfl))
      (pss_cons (ps_set (i := 2) sc_Machine_step.nd rfl (Or.inl rfl) (pe_ix ix_tup (pe_fld (pe_fld (pv 1) rfl) rfl) (pe_fld (pv 1) rfl) (fun _ _ => rfl)))
      (pss_cons (ps_fldaug (pv 1) pe_int in_add)
      (pss_cons (ps_set (i := 3) sc_Machine_step.nd rfl (Or.inl rfl) (pe_ix ix_kdict (pe_glob (v := .ref a.c_ACTIONS) rfl T.g_ACTIONS rfl) (pe_ix ix_tup (pv 2) pe_int (fun _ _ => rfl)) (fun _ _ => rfl)))
      (pss_one (ps_expr (pe_callL (i := 3) (f := a.f_do_tick) G_do_tick (hr.mono (by decide)) rfl (by first | exact Or.inl rfl | exact Or.inr (Or.inl rfl)) T.k__do_tick T.bd__do_tick .nil pass0 (pa_cons (pv 0) (pa_cons (pv 1) (pa_cons (pv 2) pa_nil)))))))))), ?_⟩
      refine ⟨_, rfl, M, a.C_Machine, dm, _, _, rfl, hM.1, T.cl_Machine, T.n_Machine_current, mcF_current _ _ _ _ _ _, ?_⟩
      refine ⟨_, rfl, _, a.C_Activation, dx, _, _, rfl, hA.1, T.cl_Activation, T.n_Activation_unit, acF_unit _ _ _ _ _ _ _ _ _, _, a.C_Unit, dxu, _, _, rfl, u1.1, T.cl_Unit, T.n_Unit_code, un_cd _ _ _ _ _ _ _, _, rfl, _, a.C_Activation, dx, _, _, rfl, hA.1, T.cl_Activation, T.n_Activation_index, acF_index _ _ _ _ _ _ _ _ _, _, _, _, _, rfl, rfl, u2, evi, ?_⟩
      refine ⟨_, rfl, _, a.C_Activation, dx, _, _, rfl, hA.1, T.cl_Activation, T.n_Activation_index, acF_index _ _ _ _ _ _ _ _ _, _, _, rfl, rfl, dx, _, hA.1, (Nat.le_of_ble_eq_true rfl), ?_⟩
      rw [acF_put_index]
      refine ⟨_, rfl, _, _, _, _, rfl, rfl, hi3, atI0, _, _, _, rfl, rfl, (show KDct K w a.c_ACTIONS (In.ti ).nm (.ref a.f_do_tick) from T.kd_ACTIONS_tick), ?_⟩
      exact ⟨rfl, _, rfl, _, rfl, _, rfl, τ, M, Ev', L, { S with st := b.nx :: r }, b.nx, r, .ref pi', _, rfl, rfl, D1, R1, hen, rfl, ok, fun c m => (by
        rcases List.mem_cons.mp m with rfl | m
        · exact hu b (by rw [est]; simp)
        · exact hu c (by rw [est]; simp [m])), ao, fun τ' H' L' R' eY G' => q τ' H' L' R' eY (G1.tr G')⟩
    | mv y0 y1 =>
      refine ⟨_, (pss_cons (ps_set (i := 1) sc_Machine_step.nd rfl (Or.inl rfl) (pe_fld (pv 0) rfl))
      (pss_cons (ps_set (i := 2) sc_Machine_step.nd rfl (Or.inl rfl) (pe_ix ix_tup (pe_fld (pe_fld (pv 1) rfl) rfl) (pe_fld (pv 1) rfl) (fun _ _ => rfl)))
      (pss_cons (ps_fldaug (pv 1) pe_int in_add)
      (pss_cons (ps_set (i := 3) sc_Machine_step.nd rfl (Or.inl rfl) (pe_ix ix_kdict (pe_glob (v := .ref a.c_ACTIONS) rfl T.g_ACTIONS rfl) (pe_ix ix_tup (pv 2) pe_int (fun _ _ => rfl)) (fun _ _ => rfl)))
      (pss_one (ps_expr (pe_callL (i := 3) (f := a.f_do_move) G_do_move (hr.mono (by decide)) rfl (by first | exact Or.inl rfl | exact Or.inr (Or.inl rfl)) T.k__do_move T.bd__do_move .nil pass0 (pa_cons (pv 0) (pa_cons (pv 1) (pa_cons (pv 2) pa_nil)))))))))), ?_⟩
      refine ⟨_, rfl, M, a.C_Machine, dm, _, _, rfl, hM.1, T.cl_Machine, T.n_Machine_current, mcF_current _ _ _ _ _ _, ?_⟩
      refine ⟨_, rfl, _, a.C_Activation, dx, _, _, rfl, hA.1, T.cl_Activation, T.n_Activation_unit, acF_unit _ _ _ _ _ _ _ _ _, _, a.C_Unit, dxu, _, _, rfl, u1.1, T.cl_Unit, T.n_Unit_code, un_cd _ _ _ _ _ _ _, _, rfl, _, a.C_Activation, dx, _, _, rfl, hA.1, T.cl_Activation, T.n_Activation_index, acF_index _ _ _ _ _ _ _ _ _, _, _, _, _, rfl, rfl, u2, evi, ?_⟩
      refine ⟨_, rfl, _, a.C_Activation, dx, _, _, rfl, hA.1, T.cl_Activation, T.n_Activation_index, acF_index _ _ _ _ _ _ _ _ _, _, _, rfl, rfl, dx, _, hA.1, (Nat.le_of_ble_eq_true rfl), ?_⟩
      rw [acF_put_index]
      refine ⟨_, rfl, _, _, _, _, rfl, rfl, hi3, atI0, _, _, _, rfl, rfl, (show KDct K w a.c_ACTIONS (In.mv y0 y1).nm (.ref a.f_do_move) from T.kd_ACTIONS_move), ?_⟩
      exact ⟨rfl, _, rfl, _, rfl, _, rfl, τ, M, Ev', L, { S with st := b.nx :: r }, b.nx, r, .ref pi', _, rfl, ⟨y0, y1, rfl⟩, D1, R1, hen, rfl, ok, fun c m => (by
        rcases List.mem_cons.mp m with rfl | m
        · exact hu b (by rw [est]; simp)
        · exact hu c (by rw [est]; simp [m])), ao, fun τ' H' L' R' eY G' => q τ' H' L' R' eY (G1.tr G')⟩
    | un y0 y1 y2 y3 =>
      refine ⟨_, (pss_cons (ps_set (i := 1) sc_Machine_step.nd rfl (Or.inl rfl) (pe_fld (pv 0) rfl))
      (pss_cons (ps_set (i := 2) sc_Machine_step.nd rfl (Or.inl rfl) (pe_ix ix_tup (pe_fld (pe_fld (pv 1) rfl) rfl) (pe_fld (pv 1) rfl) (fun _ _ => rfl)))
      (pss_cons (ps_fldaug (pv 1) pe_int in_add)
      (pss_cons (ps_set (i := 3) sc_Machine_step.nd rfl (Or.inl rfl) (pe_ix ix_kdict (pe_glob (v := .ref a.c_ACTIONS) rfl T.g_ACTIONS rfl) (pe_ix ix_tup (pv 2) pe_int (fun _ _ => rfl)) (fun _ _ => rfl)))
      (pss_one (ps_expr (pe_callL (i := 3) (f := a.f_do_sign) G_do_sign (hr.mono (by decide)) rfl (by first | exact Or.inl rfl | exact Or.inr (Or.inl rfl)) T.k__do_sign T.bd__do_sign .nil pass0 (pa_cons (pv 0) (pa_cons (pv 1) (pa_cons (pv 2) pa_nil)))))))))), ?_⟩
      refine ⟨_, rfl, M, a.C_Machine, dm, _, _, rfl, hM.1, T.cl_Machine, T.n_Machine_current, mcF_current _ _ _ _ _ _, ?_⟩
      refine ⟨_, rfl, _, a.C_Activation, dx, _, _, rfl, hA.1, T.cl_Activation, T.n_Activation_unit, acF_unit _ _ _ _ _ _ _ _ _, _, a.C_Unit, dxu, _, _, rfl, u1.1, T.cl_Unit, T.n_Unit_code, un_cd _ _ _ _ _ _ _, _, rfl, _, a.C_Activation, dx, _, _, rfl, hA.1, T.cl_Activation, T.n_Activation_index, acF_index _ _ _ _ _ _ _ _ _, _, _, _, _, rfl, rfl, u2, evi, ?_⟩
      refine ⟨_, rfl, _, a.C_Activation, dx, _, _, rfl, hA.1, T.cl_Activation, T.n_Activation_index, acF_index _ _ _ _ _ _ _ _ _, _, _, rfl, rfl, dx, _, hA.1, (Nat.le_of_ble_eq_true rfl), ?_⟩
      rw [acF_put_index]
      refine ⟨_, rfl, _, _, _, _, rfl, rfl, hi3, atI0, _, _, _, rfl, rfl, (show KDct K w a.c_ACTIONS (In.un y0 y1 y2 y3).nm (.ref a.f_do_sign) from kdU T y0), ?_⟩
      exact ⟨rfl, _, rfl, _, rfl, _, rfl, τ, M, Ev', L, { S with st := b.nx :: r }, b.nx, r, .ref pi', _, rfl, ⟨y0, y1, y2, y3, rfl⟩, D1, R1, hen, rfl, ok, fun c m => (by
        rcases List.mem_cons.mp m with rfl | m
        · exact hu b (by rw [est]; simp)
        · exact hu c (by rw [est]; simp [m])), ao, fun τ' H' L' R' eY G' => q τ' H' L' R' eY (G1.tr G')⟩
    | bi y0 y1 y2 y3 y4 =>
      refine ⟨_, (pss_cons (ps_set (i := 1) sc_Machine_step.nd rfl (Or.inl rfl) (pe_fld (pv 0) rfl))
      (pss_cons (ps_set (i := 2) sc_Machine_step.nd rfl (Or.inl rfl) (pe_ix ix_tup (pe_fld (pe_fld (pv 1) rfl) rfl) (pe_fld (pv 1) rfl) (fun _ _ => rfl)))
      (pss_cons (ps_fldaug (pv 1) pe_int in_add)
      (pss_cons (ps_set (i := 3) sc_Machine_step.nd rfl (Or.inl rfl) (pe_ix ix_kdict (pe_glob (v := .ref a.c_ACTIONS) rfl T.g_ACTIONS rfl) (pe_ix ix_tup (pv 2) pe_int (fun _ _ => rfl)) (fun _ _ => rfl)))
      (pss_one (ps_expr (pe_callL (i := 3) (f := a.f_do_arithmetic) G_do_arithmetic (hr.mono (by decide)) rfl (by first | exact Or.inl rfl | exact Or.inr (Or.inl rfl)) T.k__do_arithmetic T.bd__do_arithmetic .nil pass0 (pa_cons (pv 0) (pa_cons (pv 1) (pa_cons (pv 2) pa_nil)))))))))), ?_⟩
      refine ⟨_, rfl, M, a.C_Machine, dm, _, _, rfl, hM.1, T.cl_Machine, T.n_Machine_current, mcF_current _ _ _ _ _ _, ?_⟩
      refine ⟨_, rfl, _, a.C_Activation, dx, _, _, rfl, hA.1, T.cl_Activation, T.n_Activation_unit, acF_unit _ _ _ _ _ _ _ _ _, _, a.C_Unit, dxu, _, _, rfl, u1.1, T.cl_Unit, T.n_Unit_code, un_cd _ _ _ _ _ _ _, _, rfl, _, a.C_Activation, dx, _, _, rfl, hA.1, T.cl_Activation, T.n_Activation_index, acF_index _ _ _ _ _ _ _ _ _, _, _, _, _, rfl, rfl, u2, evi, ?_⟩
      refine ⟨_, rfl, _, a.C_Activation, dx, _, _, rfl, hA.1, T.cl_Activation, T.n_Activation_index, acF_index _ _ _ _ _ _ _ _ _, _, _, rfl, rfl, dx, _, hA.1, (Nat.le_of_ble_eq_true rfl), ?_⟩
      rw [acF_put_index]
      refine ⟨_, rfl, _, _, _, _, rfl, rfl, hi3, atI0, _, _, _, rfl, rfl, (show KDct K w a.c_ACTIONS (In.bi y0 y1 y2 y3 y4).nm (.ref a.f_do_arithmetic) from kdB T y0), ?_⟩
      exact ⟨rfl, _, rfl, _, rfl, _, rfl, τ, M, Ev', L, { S with st := b.nx :: r }, b.nx, r, .ref pi', _, rfl, ⟨y0, y1, y2, y3, y4, rfl⟩, D1, R1, hen, rfl, ok, fun c m => (by
        rcases List.mem_cons.mp m with rfl | m
        · exact hu b (by rw [est]; simp)
        · exact hu c (by rw [est]; simp [m])), ao, fun τ' H' L' R' eY G' => q τ' H' L' R' eY (G1.tr G')⟩
    | cm y0 y1 y2 y3 =>
      refine ⟨_, (pss_cons (ps_set (i := 1) sc_Machine_step.nd rfl (Or.inl rfl) (pe_fld (pv 0) rfl))
      (pss_cons (ps_set (i := 2) sc_Machine_step.nd rfl (Or.inl rfl) (pe_ix ix_tup (pe_fld (pe_fld (pv 1) rfl) rfl) (pe_fld (pv 1) rfl) (fun _ _ => rfl)))
      (pss_cons (ps_fldaug (pv 1) pe_int in_add)
      (pss_cons (ps_set (i := 3) sc_Machine_step.nd rfl (Or.inl rfl) (pe_ix ix_kdict (pe_glob (v := .ref a.c_ACTIONS) rfl T.g_ACTIONS rfl) (pe_ix ix_tup (pv 2) pe_int (fun _ _ => rfl)) (fun _ _ => rfl)))
      (pss_one (ps_expr (pe_callL (i := 3) (f := a.f_do_compare) G_do_compare (hr.mono (by decide)) rfl (by first | exact Or.inl rfl | exact Or.inr (Or.inl rfl)) T.k__do_compare T.bd__do_compare .nil pass0 (pa_cons (pv 0) (pa_cons (pv 1) (pa_cons (pv 2) pa_nil)))))))))), ?_⟩
      refine ⟨_, rfl, M, a.C_Machine, dm, _, _, rfl, hM.1, T.cl_Machine, T.n_Machine_current, mcF_current _ _ _ _ _ _, ?_⟩
      refine ⟨_, rfl, _, a.C_Activation, dx, _, _, rfl, hA.1, T.cl_Activation, T.n_Activation_unit, acF_unit _ _ _ _ _ _ _ _ _, _, a.C_Unit, dxu, _, _, rfl, u1.1, T.cl_Unit, T.n_Unit_code, un_cd _ _ _ _ _ _ _, _, rfl, _, a.C_Activation, dx, _, _, rfl, hA.1, T.cl_Activation, T.n_Activation_index, acF_index _ _ _ _ _ _ _ _ _, _, _, _, _, rfl, rfl, u2, evi, ?_⟩
      refine ⟨_, rfl, _, a.C_Activation, dx, _, _, rfl, hA.1, T.cl_Activation, T.n_Activation_index, acF_index _ _ _ _ _ _ _ _ _, _, _, rfl, rfl, dx, _, hA.1, (Nat.le_of_ble_eq_true rfl), ?_⟩
      rw [acF_put_index]
      refine ⟨_, rfl, _, _, _, _, rfl, rfl, hi3, atI0, _, _, _, rfl, rfl, (show KDct K w a.c_ACTIONS (In.cm y0 y1 y2 y3).nm (.ref a.f_do_compare) from kdC T y0), ?_⟩
      exact ⟨rfl, _, rfl, _, rfl, _, rfl, τ, M, Ev', L, { S with st := b.nx :: r }, b.nx, r, .ref pi', _, rfl, ⟨y0, y1, y2, y3, rfl⟩, D1, R1, hen, rfl, ok, fun c m => (by
        rcases List.mem_cons.mp m with rfl | m
        · exact hu b (by rw [est]; simp)
        · exact hu c (by rw [est]; simp [m])), ao, fun τ' H' L' R' eY G' => q τ' H' L' R' eY (G1.tr G')⟩
    | ck y0 y1 y2 y3 =>
      refine ⟨_, (pss_cons (ps_set (i := 1) sc_Machine_step.nd rfl (Or.inl rfl) (pe_fld (pv 0) rfl))
      (pss_cons (ps_set (i := 2) sc_Machine_step.nd rfl (Or.inl rfl) (pe_ix ix_tup (pe_fld (pe_fld (pv 1) rfl) rfl) (pe_fld (pv 1) rfl) (fun _ _ => rfl)))
      (pss_cons (ps_fldaug (pv 1) pe_int in_add)
      (pss_cons (ps_set (i := 3) sc_Machine_step.nd rfl (Or.inl rfl) (pe_ix ix_kdict (pe_glob (v := .ref a.c_ACTIONS) rfl T.g_ACTIONS rfl) (pe_ix ix_tup (pv 2) pe_int (fun _ _ => rfl)) (fun _ _ => rfl)))
      (pss_one (ps_expr (pe_callL (i := 3) (f := a.f_do_check) G_do_check (hr.mono (by decide)) rfl (by first | exact Or.inl rfl | exact Or.inr (Or.inl rfl)) T.k__do_check T.bd__do_check .nil pass0 (pa_cons (pv 0) (pa_cons (pv 1) (pa_cons (pv 2) pa_nil)))))))))), ?_⟩
      refine ⟨_, rfl, M, a.C_Machine, dm, _, _, rfl, hM.1, T.cl_Machine, T.n_Machine_current, mcF_current _ _ _ _ _ _, ?_⟩
      refine ⟨_, rfl, _, a.C_Activation, dx, _, _, rfl, hA.1, T.cl_Activation, T.n_Activation_unit, acF_unit _ _ _ _ _ _ _ _ _, _, a.C_Unit, dxu, _, _, rfl, u1.1, T.cl_Unit, T.n_Unit_code, un_cd _ _ _ _ _ _ _, _, rfl, _, a.C_Activation, dx, _, _, rfl, hA.1, T.cl_Activation, T.n_Activation_index, acF_index _ _ _ _ _ _ _ _ _, _, _, _, _, rfl, rfl, u2, evi, ?_⟩
      refine ⟨_, rfl, _, a.C_Activation, dx, _, _, rfl, hA.1, T.cl_Activation, T.n_Activation_index, acF_index _ _ _ _ _ _ _ _ _, _, _, rfl, rfl, dx, _, hA.1, (Nat.le_of_ble_eq_true rfl), ?_⟩
      rw [acF_put_index]
      refine ⟨_, rfl, _, _, _, _, rfl, rfl, hi3, atI0, _, _, _, rfl, rfl, (show KDct K w a.c_ACTIONS (In.ck y0 y1 y2 y3).nm (.ref a.f_do_check) from T.kd_ACTIONS_check), ?_⟩
      exact ⟨rfl, _, rfl, _, rfl, _, rfl, τ, M, Ev', L, { S with st := b.nx :: r }, b.nx, r, .ref pi', _, rfl, ⟨y0, y1, y2, y3, rfl⟩, D1, R1, hen, rfl, ok, fun c m => (by
        rcases List.mem_cons.mp m with rfl | m
        · exact hu b (by rw [est]; simp)
        · exact hu c (by rw [est]; simp [m])), ao, fun τ' H' L' R' eY G' => q τ' H' L' R' eY (G1.tr G')⟩
    | ld y0 y1 y2 y3 y4 =>
      refine ⟨_, (pss_cons (ps_set (i := 1) sc_Machine_step.nd rfl (Or.inl rfl) (pe_fld (pv 0) rfl))
      (pss_cons (ps_set (i := 2) sc_Machine_step.nd rfl (Or.inl rfl) (pe_ix ix_tup (pe_fld (pe_fld (pv 1) rfl) rfl) (pe_fld (pv 1) rfl) (fun _ _ => rfl)))
      (pss_cons (ps_fldaug (pv 1) pe_int in_add)
      (pss_cons (ps_set (i := 3) sc_Machine_step.nd rfl (Or.inl rfl) (pe_ix ix_kdict (pe_glob (v := .ref a.c_ACTIONS) rfl T.g_ACTIONS rfl) (pe_ix ix_tup (pv 2) pe_int (fun _ _ => rfl)) (fun _ _ => rfl)))
      (pss_one (ps_expr (pe_callL (i := 3) (f := a.f_do_load) G_do_load (hr.mono (by decide)) rfl (by first | exact Or.inl rfl | exact Or.inr (Or.inl rfl)) T.k__do_load T.bd__do_load .nil pass0 (pa_cons (pv 0) (pa_cons (pv 1) (pa_cons (pv 2) pa_nil)))))))))), ?_⟩
      refine ⟨_, rfl, M, a.C_Machine, dm, _, _, rfl, hM.1, T.cl_Machine, T.n_Machine_current, mcF_current _ _ _ _ _ _, ?_⟩
      refine ⟨_, rfl, _, a.C_Activation, dx, _, _, rfl, hA.1, T.cl_Activation, T.n_Activation_unit, acF_unit _ _ _ _ _ _ _ _ _, _, a.C_Unit, dxu, _, _, rfl, u1.1, T.cl_Unit, T.n_Unit_code, un_cd _ _ _ _ _ _ _, _, rfl, _, a.C_Activation, dx, _, _, rfl, hA.1, T.cl_Activation, T.n_Activation_index, acF_index _ _ _ _ _ _ _ _ _, _, _, _, _, rfl, rfl, u2, evi, ?_⟩
      refine ⟨_, rfl, _, a.C_Activation, dx, _, _, rfl, hA.1, T.cl_Activation, T.n_Activation_index, acF_index _ _ _ _ _ _ _ _ _, _, _, rfl, rfl, dx, _, hA.1, (Nat.le_of_ble_eq_true rfl), ?_⟩
      rw [acF_put_index]
      refine ⟨_, rfl, _, _, _, _, rfl, rfl, hi3, atI0, _, _, _, rfl, rfl, (show KDct K w a.c_ACTIONS (In.ld y0 y1 y2 y3 y4).nm (.ref a.f_do_load) from T.kd_ACTIONS_load), ?_⟩
      exact ⟨rfl, _, rfl, _, rfl, _, rfl, τ, M, Ev', L, { S with st := b.nx :: r }, b.nx, r, .ref pi', _, rfl, ⟨y0, y1, y2, y3, y4, rfl⟩, D1, R1, hen, rfl, ok, fun c m => (by
        rcases List.mem_cons.mp m with rfl | m
        · exact hu b (by rw [est]; simp)
        · exact hu c (by rw [est]; simp [m])), ao, fun τ' H' L' R' eY G' => q τ' H' L' R' eY (G1.tr G')⟩
    | st y0 y1 y2 y3 y4 =>
      refine ⟨_, (pss_cons (ps_set (i := 1) sc_Machine_step.nd rfl (Or.inl rfl) (pe_fld (pv 0) rfl))
      (pss_cons (ps_set (i := 2) sc_Machine_step.nd rfl (Or.inl rfl) (pe_ix ix_tup (pe_fld (pe_fld (pv 1) rfl) rfl) (pe_fld (pv 1) rfl) (fun _ _ => rfl)))
      (pss_cons (ps_fldaug (pv 1) pe_int in_add)
      (pss_cons (ps_set (i := 3) sc_Machine_step.nd rfl (Or.inl rfl) (pe_ix ix_kdict (pe_glob (v := .ref a.c_ACTIONS) rfl T.g_ACTIONS rfl) (pe_ix ix_tup (pv 2) pe_int (fun _ _ => rfl)) (fun _ _ => rfl)))
      (pss_one (ps_expr (pe_callL (i := 3) (f := a.f_do_store) G_do_store (hr.mono (by decide)) rfl (by first | exact Or.inl rfl | exact Or.inr (Or.inl rfl)) T.k__do_store T.bd__do_store .nil pass0 (pa_cons (pv 0) (pa_cons (pv 1) (pa_cons (pv 2) pa_nil)))))))))), ?_⟩
      refine ⟨_, rfl, M, a.C_Machine, dm, _, _, rfl, hM.1, T.cl_Machine, T.n_Machine_current, mcF_current _ _ _ _ _ _, ?_⟩
      refine ⟨_, rfl, _, a.C_Activation, dx, _, _, rfl, hA.1, T.cl_Activation, T.n_Activation_unit, acF_unit _ _ _ _ _ _ _ _ _, _, a.C_Unit, dxu, _, _, rfl, u1.1, T.cl_Unit, T.n_Unit_code, un_cd _ _ _ _ _ _ _, _, rfl, _, a.C_Activation, dx, _, _, rfl, hA.1, T.cl_Activation, T.n_Activation_index, acF_index _ _ _ _ _ _ _ _ _, _, _, _, _, rfl, rfl, u2, evi, ?_⟩
      refine ⟨_, rfl, _, a.C_Activation, dx, _, _, rfl, hA.1, T.cl_Activation, T.n_Activation_index, acF_index _ _ _ _ _ _ _ _ _, _, _, rfl, rfl, dx, _, hA.1, (Nat.le_of_ble_eq_true rfl), ?_⟩
      rw [acF_put_index]
      refine ⟨_, rfl, _, _, _, _, rfl, rfl, hi3, atI0, _, _, _, rfl, rfl, (show KDct K w a.c_ACTIONS (In.st y0 y1 y2 y3 y4).nm (.ref a.f_do_store) from T.kd_ACTIONS_store), ?_⟩
      exact ⟨rfl, _, rfl, _, rfl, _, rfl, τ, M, Ev', L, { S with st := b.nx :: r }, b.nx, r, .ref pi', _, rfl, ⟨y0, y1, y2, y3, y4, rfl⟩, D1, R1, hen, rfl, ok, fun c m => (by
        rcases List.mem_cons.mp m with rfl | m
        · exact hu b (by rw [est]; simp)
        · exact hu c (by rw [est]; simp [m])), ao, fun τ' H' L' R' eY G' => q τ' H' L' R' eY (G1.tr G')⟩
    | jm y0 =>
      refine ⟨_, (pss_cons (ps_set (i := 1) sc_Machine_step.nd rfl (Or.inl rfl) (pe_fld (pv 0) rfl))
      (pss_cons (ps_set (i := 2) sc_Machine_step.nd rfl (Or.inl rfl) (pe_ix ix_tup (pe_fld (pe_fld (pv 1) rfl) rfl) (pe_fld (pv 1) rfl) (fun _ _ => rfl)))
      (pss_cons (ps_fldaug (pv 1) pe_int in_add)
      (pss_cons (ps_set (i := 3) sc_Machine_step.nd rfl (Or.inl rfl) (pe_ix ix_kdict (pe_glob (v := .ref a.c_ACTIONS) rfl T.g_ACTIONS rfl) (pe_ix ix_tup (pv 2) pe_int (fun _ _ => rfl)) (fun _ _ => rfl)))
      (pss_one (ps_expr (pe_callL (i := 3) (f := a.f_do_jump) G_do_jump (hr.mono (by decide)) rfl (by first | exact Or.inl rfl | exact Or.inr (Or.inl rfl)) T.k__do_jump T.bd__do_jump .nil pass0 (pa_cons (pv 0) (pa_cons (pv 1) (pa_cons (pv 2) pa_nil)))))))))), ?_⟩
      refine ⟨_, rfl, M, a.C_Machine, dm, _, _, rfl, hM.1, T.cl_Machine, T.n_Machine_current, mcF_current _ _ _ _ _ _, ?_⟩
      refine ⟨_, rfl, _, a.C_Activation, dx, _, _, rfl, hA.1, T.cl_Activation, T.n_Activation_unit, acF_unit _ _ _ _ _ _ _ _ _, _, a.C_Unit, dxu, _, _, rfl, u1.1, T.cl_Unit, T.n_Unit_code, un_cd _ _ _ _ _ _ _, _, rfl, _, a.C_Activation, dx, _, _, rfl, hA.1, T.cl_Activation, T.n_Activation_index, acF_index _ _ _ _ _ _ _ _ _, _, _, _, _, rfl, rfl, u2, evi, ?_⟩
      refine ⟨_, rfl, _, a.C_Activation, dx, _, _, rfl, hA.1, T.cl_Activation, T.n_Activation_index, acF_index _ _ _ _ _ _ _ _ _, _, _, rfl, rfl, dx, _, hA.1, (Nat.le_of_ble_eq_true rfl), ?_⟩
      rw [acF_put_index]
      refine ⟨_, rfl, _, _, _, _, rfl, rfl, hi3, atI0, _, _, _, rfl, rfl, (show KDct K w a.c_ACTIONS (In.jm y0).nm (.ref a.f_do_jump) from T.kd_ACTIONS_jump), ?_⟩
      exact ⟨rfl, _, rfl, _, rfl, _, rfl, τ, M, Ev', L, { S with st := b.nx :: r }, b.nx, r, .ref pi', _, rfl, ⟨y0, rfl⟩, D1, R1, hen, rfl, ok, fun c m => (by
        rcases List.mem_cons.mp m with rfl | m
        · exact hu b (by rw [est]; simp)
        · exact hu c (by rw [est]; simp [m])), ao, fun τ' H' L' R' eY G' => q τ' H' L' R' eY (G1.tr G')⟩
    | br y0 y1 =>
      refine ⟨_, (pss_cons (ps_set (i := 1) sc_Machine_step.nd rfl (Or.inl rfl) (pe_fld (pv 0) rfl))
      (pss_cons (ps_set (i := 2) sc_Machine_step.nd rfl (Or.inl rfl) (pe_ix ix_tup (pe_fld (pe_fld (pv 1) rfl) rfl) (pe_fld (pv 1) rfl) (fun _ _ => rfl)))
      (pss_cons (ps_fldaug (pv 1) pe_int in_add)
      (pss_cons (ps_set (i := 3) sc_Machine_step.nd rfl (Or.inl rfl) (pe_ix ix_kdict (pe_glob (v := .ref a.c_ACTIONS) rfl T.g_ACTIONS rfl) (pe_ix ix_tup (pv 2) pe_int (fun _ _ => rfl)) (fun _ _ => rfl)))
      (pss_one (ps_expr (pe_callL (i := 3) (f := a.f_do_branch) G_do_branch (hr.mono (by decide)) rfl (by first | exact Or.inl rfl | exact Or.inr (Or.inl rfl)) T.k__do_branch T.bd__do_branch .nil pass0 (pa_cons (pv 0) (pa_cons (pv 1) (pa_cons (pv 2) pa_nil)))))))))), ?_⟩
      refine ⟨_, rfl, M, a.C_Machine, dm, _, _, rfl, hM.1, T.cl_Machine, T.n_Machine_current, mcF_current _ _ _ _ _ _, ?_⟩
      refine ⟨_, rfl, _, a.C_Activation, dx, _, _, rfl, hA.1, T.cl_Activation, T.n_Activation_unit, acF_unit _ _ _ _ _ _ _ _ _, _, a.C_Unit, dxu, _, _, rfl, u1.1, T.cl_Unit, T.n_Unit_code, un_cd _ _ _ _ _ _ _, _, rfl, _, a.C_Activation, dx, _, _, rfl, hA.1, T.cl_Activation, T.n_Activation_index, acF_index _ _ _ _ _ _ _ _ _, _, _, _, _, rfl, rfl, u2, evi, ?_⟩
      refine ⟨_, rfl, _, a.C_Activation, dx, _, _, rfl, hA.1, T.cl_Activation, T.n_Activation_index, acF_index _ _ _ _ _ _ _ _ _, _, _, rfl, rfl, dx, _, hA.1, (Nat.le_of_ble_eq_true rfl), ?_⟩
      rw [acF_put_index]
      refine ⟨_, rfl, _, _, _, _, rfl, rfl, hi3, atI0, _, _, _, rfl, rfl, (show KDct K w a.c_ACTIONS (In.br y0 y1).nm (.ref a.f_do_branch) from T.kd_ACTIONS_branch), ?_⟩
      exact ⟨rfl, _, rfl, _, rfl, _, rfl, τ, M, Ev', L, { S with st := b.nx :: r }, b.nx, r, .ref pi', _, rfl, ⟨y0, y1, rfl⟩, D1, R1, hen, rfl, ok, fun c m => (by
        rcases List.mem_cons.mp m with rfl | m
        · exact hu b (by rw [est]; simp)
        · exact hu c (by rw [est]; simp [m])), ao, fun τ' H' L' R' eY G' => q τ' H' L' R' eY (G1.tr G')⟩
    | ca y0 y1 y2 y3 y4 =>
      refine ⟨_, (pss_cons (ps_set (i := 1) sc_Machine_step.nd rfl (Or.inl rfl) (pe_fld (pv 0) rfl))
      (pss_cons (ps_set (i := 2) sc_Machine_step.nd rfl (Or.inl rfl) (pe_ix ix_tup (pe_fld (pe_fld (pv 1) rfl) rfl) (pe_fld (pv 1) rfl) (fun _ _ => rfl)))
      (pss_cons (ps_fldaug (pv 1) pe_int in_add)
      (pss_cons (ps_set (i := 3) sc_Machine_step.nd rfl (Or.inl rfl) (pe_ix ix_kdict (pe_glob (v := .ref a.c_ACTIONS) rfl T.g_ACTIONS rfl) (pe_ix ix_tup (pv 2) pe_int (fun _ _ => rfl)) (fun _ _ => rfl)))
      (pss_one (ps_expr (pe_callL (i := 3) (f := a.f_do_call) G_do_call (hr.mono (by decide)) rfl (by first | exact Or.inl rfl | exact Or.inr (Or.inl rfl)) T.k__do_call T.bd__do_call .nil pass0 (pa_cons (pv 0) (pa_cons (pv 1) (pa_cons (pv 2) pa_nil)))))))))), ?_⟩
      refine ⟨_, rfl, M, a.C_Machine, dm, _, _, rfl, hM.1, T.cl_Machine, T.n_Machine_current, mcF_current _ _ _ _ _ _, ?_⟩
      refine ⟨_, rfl, _, a.C_Activation, dx, _, _, rfl, hA.1, T.cl_Activation, T.n_Activation_unit, acF_unit _ _ _ _ _ _ _ _ _, _, a.C_Unit, dxu, _, _, rfl, u1.1, T.cl_Unit, T.n_Unit_code, un_cd _ _ _ _ _ _ _, _, rfl, _, a.C_Activation, dx, _, _, rfl, hA.1, T.cl_Activation, T.n_Activation_index, acF_index _ _ _ _ _ _ _ _ _, _, _, _, _, rfl, rfl, u2, evi, ?_⟩
      refine ⟨_, rfl, _, a.C_Activation, dx, _, _, rfl, hA.1, T.cl_Activation, T.n_Activation_index, acF_index _ _ _ _ _ _ _ _ _, _, _, rfl, rfl, dx, _, hA.1, (Nat.le_of_ble_eq_true rfl), ?_⟩
      rw [acF_put_index]
      refine ⟨_, rfl, _, _, _, _, rfl, rfl, hi3, atI0, _, _, _, rfl, rfl, (show KDct K w a.c_ACTIONS (In.ca y0 y1 y2 y3 y4).nm (.ref a.f_do_call) from T.kd_ACTIONS_call), ?_⟩
      exact ⟨rfl, _, rfl, _, rfl, _, rfl, τ, M, Ev', L, { S with st := b.nx :: r }, b.nx, r, .ref pi', _, rfl, ⟨y0, y1, y2, y3, y4, rfl⟩, D1, R1, hen, rfl, ok, fun c m => (by
        rcases List.mem_cons.mp m with rfl | m
        · exact hu b (by rw [est]; simp)
        · exact hu c (by rw [est]; simp [m])), ao, fun τ' H' L' R' eY G' => q τ' H' L' R' eY (G1.tr G')⟩
    | re y0 =>
      refine ⟨_, (pss_cons (ps_set (i := 1) sc_Machine_step.nd rfl (Or.inl rfl) (pe_fld (pv 0) rfl))
      (pss_cons (ps_set (i := 2) sc_Machine_step.nd rfl (Or.inl rfl) (pe_ix ix_tup (pe_fld (pe_fld (pv 1) rfl) rfl) (pe_fld (pv 1) rfl) (fun _ _ => rfl)))
      (pss_cons (ps_fldaug (pv 1) pe_int in_add)
      (pss_cons (ps_set (i := 3) sc_Machine_step.nd rfl (Or.inl rfl) (pe_ix ix_kdict (pe_glob (v := .ref a.c_ACTIONS) rfl T.g_ACTIONS rfl) (pe_ix ix_tup (pv 2) pe_int (fun _ _ => rfl)) (fun _ _ => rfl)))
      (pss_one (ps_expr (pe_callL (i := 3) (f := a.f_do_return) G_do_return (hr.mono (by decide)) rfl (by first | exact Or.inl rfl | exact Or.inr (Or.inl rfl)) T.k__do_return T.bd__do_return .nil pass0 (pa_cons (pv 0) (pa_cons (pv 1) (pa_cons (pv 2) pa_nil)))))))))), ?_⟩
      refine ⟨_, rfl, M, a.C_Machine, dm, _, _, rfl, hM.1, T.cl_Machine, T.n_Machine_current, mcF_current _ _ _ _ _ _, ?_⟩
      refine ⟨_, rfl, _, a.C_Activation, dx, _, _, rfl, hA.1, T.cl_Activation, T.n_Activation_unit, acF_unit _ _ _ _ _ _ _ _ _, _, a.C_Unit, dxu, _, _, rfl, u1.1, T.cl_Unit, T.n_Unit_code, un_cd _ _ _ _ _ _ _, _, rfl, _, a.C_Activation, dx, _, _, rfl, hA.1, T.cl_Activation, T.n_Activation_index, acF_index _ _ _ _ _ _ _ _ _, _, _, _, _, rfl, rfl, u2, evi, ?_⟩
      refine ⟨_, rfl, _, a.C_Activation, dx, _, _, rfl, hA.1, T.cl_Activation, T.n_Activation_index, acF_index _ _ _ _ _ _ _ _ _, _, _, rfl, rfl, dx, _, hA.1, (Nat.le_of_ble_eq_true rfl), ?_⟩
      rw [acF_put_index]
      refine ⟨_, rfl, _, _, _, _, rfl, rfl, hi3, atI0, _, _, _, rfl, rfl, (show KDct K w a.c_ACTIONS (In.re y0).nm (.ref a.f_do_return) from T.kd_ACTIONS_return), ?_⟩
      exact ⟨rfl, _, rfl, _, rfl, _, rfl, τ, M, Ev', L, { S with st := b.nx :: r }, b.nx, r, .ref pi', _, rfl, ⟨y0, rfl⟩, D1, R1, hen, rfl, ok, fun c m => (by
        rcases List.mem_cons.mp m with rfl | m
        · exact hu b (by rw [est]; simp)
        · exact hu c (by rw [est]; simp [m])), ao, fun τ' H' L' R' eY G' => q τ' H' L' R' eY (G1.tr G')⟩
    | ra y0 y1 =>
      refine ⟨_, (pss_cons (ps_set (i := 1) sc_Machine_step.nd rfl (Or.inl rfl) (pe_fld (pv 0) rfl))
      (pss_cons (ps_set (i := 2) sc_Machine_step.nd rfl (Or.inl rfl) (pe_ix ix_tup (pe_fld (pe_fld (pv 1) rfl) rfl) (pe_fld (pv 1) rfl) (fun _ _ => rfl)))
      (pss_cons (ps_fldaug (pv 1) pe_int in_add)
      (pss_cons (ps_set (i := 3) sc_Machine_step.nd rfl (Or.inl rfl) (pe_ix ix_kdict (pe_glob (v := .ref a.c_ACTIONS) rfl T.g_ACTIONS rfl) (pe_ix ix_tup (pv 2) pe_int (fun _ _ => rfl)) (fun _ _ => rfl)))
      (pss_one (ps_expr (pe_callL (i := 3) (f := a.f_do_raise) G_do_raise (hr.mono (by decide)) rfl (by first | exact Or.inl rfl | exact Or.inr (Or.inl rfl)) T.k__do_raise T.bd__do_raise .nil pass0 (pa_cons (pv 0) (pa_cons (pv 1) (pa_cons (pv 2) pa_nil)))))))))), ?_⟩
      refine ⟨_, rfl, M, a.C_Machine, dm, _, _, rfl, hM.1, T.cl_Machine, T.n_Machine_current, mcF_current _ _ _ _ _ _, ?_⟩
      refine ⟨_, rfl, _, a.C_Activation, dx, _, _, rfl, hA.1, T.cl_Activation, T.n_Activation_unit, acF_unit _ _ _ _ _ _ _ _ _, _, a.C_Unit, dxu, _, _, rfl, u1.1, T.cl_Unit, T.n_Unit_code, un_cd _ _ _ _ _ _ _, _, rfl, _, a.C_Activation, dx, _, _, rfl, hA.1, T.cl_Activation, T.n_Activation_index, acF_index _ _ _ _ _ _ _ _ _, _, _, _, _, rfl, rfl, u2, evi, ?_⟩
      refine ⟨_, rfl, _, a.C_Activation, dx, _, _, rfl, hA.1, T.cl_Activation, T.n_Activation_index, acF_index _ _ _ _ _ _ _ _ _, _, _, rfl, rfl, dx, _, hA.1, (Nat.le_of_ble_eq_true rfl), ?_⟩
      rw [acF_put_index]
      refine ⟨_, rfl, _, _, _, _, rfl, rfl, hi3, atI0, _, _, _, rfl, rfl, (show KDct K w a.c_ACTIONS (In.ra y0 y1).nm (.ref a.f_do_raise) from T.kd_ACTIONS_raise), ?_⟩
      exact ⟨rfl, _, rfl, _, rfl, _, rfl, τ, M, Ev', L, { S with st := b.nx :: r }, b.nx, r, .ref pi', _, rfl, ⟨y0, y1, rfl⟩, D1, R1, hen, rfl, ok, fun c m => (by
        rcases List.mem_cons.mp m with rfl | m
        · exact hu b (by rw [est]; simp)
        · exact hu c (by rw [est]; simp [m])), ao, fun τ' H' L' R' eY G' => q τ' H' L' R' eY (G1.tr G')⟩
    | ag y0 y1 =>
      refine ⟨_, (pss_cons (ps_set (i := 1) sc_Machine_step.nd rfl (Or.inl rfl) (pe_fld (pv 0) rfl))
      (pss_cons (ps_set (i := 2) sc_Machine_step.nd rfl (Or.inl rfl) (pe_ix ix_tup (pe_fld (pe_fld (pv 1) rfl) rfl) (pe_fld (pv 1) rfl) (fun _ _ => rfl)))
      (pss_cons (ps_fldaug (pv 1) pe_int in_add)
      (pss_cons (ps_set (i := 3) sc_Machine_step.nd rfl (Or.inl rfl) (pe_ix ix_kdict (pe_glob (v := .ref a.c_ACTIONS) rfl T.g_ACTIONS rfl) (pe_ix ix_tup (pv 2) pe_int (fun _ _ => rfl)) (fun _ _ => rfl)))
      (pss_one (ps_expr (pe_callL (i := 3) (f := a.f_do_again) G_do_again (hr.mono (by decide)) rfl (by first | exact Or.inl rfl | exact Or.inr (Or.inl rfl)) T.k__do_again T.bd__do_again .nil pass0 (pa_cons (pv 0) (pa_cons (pv 1) (pa_cons (pv 2) pa_nil)))))))))), ?_⟩
      refine ⟨_, rfl, M, a.C_Machine, dm, _, _, rfl, hM.1, T.cl_Machine, T.n_Machine_current, mcF_current _ _ _ _ _ _, ?_⟩
      refine ⟨_, rfl, _, a.C_Activation, dx, _, _, rfl, hA.1, T.cl_Activation, T.n_Activation_unit, acF_unit _ _ _ _ _ _ _ _ _, _, a.C_Unit, dxu, _, _, rfl, u1.1, T.cl_Unit, T.n_Unit_code, un_cd _ _ _ _ _ _ _, _, rfl, _, a.C_Activation, dx, _, _, rfl, hA.1, T.cl_Activation, T.n_Activation_index, acF_index _ _ _ _ _ _ _ _ _, _, _, _, _, rfl, rfl, u2, evi, ?_⟩
      refine ⟨_, rfl, _, a.C_Activation, dx, _, _, rfl, hA.1, T.cl_Activation, T.n_Activation_index, acF_index _ _ _ _ _ _ _ _ _, _, _, rfl, rfl, dx, _, hA.1, (Nat.le_of_ble_eq_true rfl), ?_⟩
      rw [acF_put_index]
      refine ⟨_, rfl, _, _, _, _, rfl, rfl, hi3, atI0, _, _, _, rfl, rfl, (show KDct K w a.c_ACTIONS (In.ag y0 y1).nm (.ref a.f_do_again) from T.kd_ACTIONS_again), ?_⟩
      exact ⟨rfl, _, rfl, _, rfl, _, rfl, τ, M, Ev', L, { S with st := b.nx :: r }, b.nx, r, .ref pi', _, rfl, ⟨y0, y1, rfl⟩, D1, R1, hen, rfl, ok, fun c m => (by
        rcases List.mem_cons.mp m with rfl | m
        · exact hu b (by rw [est]; simp)
        · exact hu c (by rw [est]; simp [m])), ao, fun τ' H' L' R' eY G' => q τ' H' L' R' eY (G1.tr G')⟩
    | pu y0 =>
      refine ⟨_, (pss_cons (ps_set (i := 1) sc_Machine_step.nd rfl (Or.inl rfl) (pe_fld (pv 0) rfl))
      (pss_cons (ps_set (i := 2) sc_Machine_step.nd rfl (Or.inl rfl) (pe_ix ix_tup (pe_fld (pe_fld (pv 1) rfl) rfl) (pe_fld (pv 1) rfl) (fun _ _ => rfl)))
      (pss_cons (ps_fldaug (pv 1) pe_int in_add)
      (pss_cons (ps_set (i := 3) sc_Machine_step.nd rfl (Or.inl rfl) (pe_ix ix_kdict (pe_glob (v := .ref a.c_ACTIONS) rfl T.g_ACTIONS rfl) (pe_ix ix_tup (pv 2) pe_int (fun _ _ => rfl)) (fun _ _ => rfl)))
      (pss_one (ps_expr (pe_callL (i := 3) (f := a.f_do_put) G_do_put (hr.mono (by decide)) rfl (by first | exact Or.inl rfl | exact Or.inr (Or.inl rfl)) T.k__do_put T.bd__do_put .nil pass0 (pa_cons (pv 0) (pa_cons (pv 1) (pa_cons (pv 2) pa_nil)))))))))), ?_⟩
      refine ⟨_, rfl, M, a.C_Machine, dm, _, _, rfl, hM.1, T.cl_Machine, T.n_Machine_current, mcF_current _ _ _ _ _ _, ?_⟩
      refine ⟨_, rfl, _, a.C_Activation, dx, _, _, rfl, hA.1, T.cl_Activation, T.n_Activation_unit, acF_unit _ _ _ _ _ _ _ _ _, _, a.C_Unit, dxu, _, _, rfl, u1.1, T.cl_Unit, T.n_Unit_code, un_cd _ _ _ _ _ _ _, _, rfl, _, a.C_Activation, dx, _, _, rfl, hA.1, T.cl_Activation, T.n_Activation_index, acF_index _ _ _ _ _ _ _ _ _, _, _, _, _, rfl, rfl, u2, evi, ?_⟩
      refine ⟨_, rfl, _, a.C_Activation, dx, _, _, rfl, hA.1, T.cl_Activation, T.n_Activation_index, acF_index _ _ _ _ _ _ _ _ _, _, _, rfl, rfl, dx, _, hA.1, (Nat.le_of_ble_eq_true rfl), ?_⟩
      rw [acF_put_index]
      refine ⟨_, rfl, _, _, _, _, rfl, rfl, hi3, atI0, _, _, _, rfl, rfl, (show KDct K w a.c_ACTIONS (In.pu y0).nm (.ref a.f_do_put) from T.kd_ACTIONS_put), ?_⟩
      exact ⟨rfl, _, rfl, _, rfl, _, rfl, τ, M, Ev', L, { S with st := b.nx :: r }, b.nx, r, .ref pi', _, rfl, ⟨y0, rfl⟩, D1, R1, hen, rfl, ok, fun c m => (by
        rcases List.mem_cons.mp m with rfl | m
        · exact hu b (by rw [est]; simp)
        · exact hu c (by rw [est]; simp [m])), ao, fun τ' H' L' R' eY G' => q τ' H' L' R' eY (G1.tr G')⟩
    | ge y0 y1 =>
      refine ⟨_, (pss_cons (ps_set (i := 1) sc_Machine_step.nd rfl (Or.inl rfl) (pe_fld (pv 0) rfl))
      (pss_cons (ps_set (i := 2) sc_Machine_step.nd rfl (Or.inl rfl) (pe_ix ix_tup (pe_fld (pe_fld (pv 1) rfl) rfl) (pe_fld (pv 1) rfl) (fun _ _ => rfl)))
      (pss_cons (ps_fldaug (pv 1) pe_int in_add)
      (pss_cons (ps_set (i := 3) sc_Machine_step.nd rfl (Or.inl rfl) (pe_ix ix_kdict (pe_glob (v := .ref a.c_ACTIONS) rfl T.g_ACTIONS rfl) (pe_ix ix_tup (pv 2) pe_int (fun _ _ => rfl)) (fun _ _ => rfl)))
      (pss_one (ps_expr (pe_callL (i := 3) (f := a.f_do_get) G_do_get (hr.mono (by decide)) rfl (by first | exact Or.inl rfl | exact Or.inr (Or.inl rfl)) T.k__do_get T.bd__do_get .nil pass0 (pa_cons (pv 0) (pa_cons (pv 1) (pa_cons (pv 2) pa_nil)))))))))), ?_⟩
      refine ⟨_, rfl, M, a.C_Machine, dm, _, _, rfl, hM.1, T.cl_Machine, T.n_Machine_current, mcF_current _ _ _ _ _ _, ?_⟩
      refine ⟨_, rfl, _, a.C_Activation, dx, _, _, rfl, hA.1, T.cl_Activation, T.n_Activation_unit, acF_unit _ _ _ _ _ _ _ _ _, _, a.C_Unit, dxu, _, _, rfl, u1.1, T.cl_Unit, T.n_Unit_code, un_cd _ _ _ _ _ _ _, _, rfl, _, a.C_Activation, dx, _, _, rfl, hA.1, T.cl_Activation, T.n_Activation_index, acF_index _ _ _ _ _ _ _ _ _, _, _, _, _, rfl, rfl, u2, evi, ?_⟩
      refine ⟨_, rfl, _, a.C_Activation, dx, _, _, rfl, hA.1, T.cl_Activation, T.n_Activation_index, acF_index _ _ _ _ _ _ _ _ _, _, _, rfl, rfl, dx, _, hA.1, (Nat.le_of_ble_eq_true rfl), ?_⟩
      rw [acF_put_index]
      refine ⟨_, rfl, _, _, _, _, rfl, rfl, hi3, atI0, _, _, _, rfl, rfl, (show KDct K w a.c_ACTIONS (In.ge y0 y1).nm (.ref a.f_do_get) from T.kd_ACTIONS_get), ?_⟩
      exact ⟨rfl, _, rfl, _, rfl, _, rfl, τ, M, Ev', L, { S with st := b.nx :: r }, b.nx, r, .ref pi', _, rfl, ⟨y0, y1, rfl⟩, D1, R1, hen, rfl, ok, fun c m => (by
        rcases List.mem_cons.mp m with rfl | m
        · exact hu b (by rw [est]; simp)
        · exact hu c (by rw [est]; simp [m])), ao, fun τ' H' L' R' eY G' => q τ' H' L' R' eY (G1.tr G')⟩
end

/-! ### a machine at its start -/
def newM (L : Ads) (ev inl rw fu : Addr) : Ads := { L with ev := ev, inl := inl, rw := rw, fu := fu }
def st0 (E : Ev) (fu : Int) : Ms := ⟨[newA E 0 none []], [], 0, fu, none⟩
def spMaI (K : PySem.W.Frag) (a : Ad) : Sp := fun vs H Q _ => ∃ (τ : Tg) (p dx l : Addr) (E : Ev) (L : Ads) (fu : Int), vs = [.ref p, .ref L.mo, .ref L.lo, .ref l, .int fu] ∧ At τ H p (.ins a.C_Machine dx []) (5, 0, 0) ∧ EvR K a τ H E L ∧ H l = some (.lst (E.inp.map V.int)) ∧ 0 < E.us.length ∧ (E.u 0).ar = 0 ∧ (E.u 0).cl ≤ 1000 ∧
  ∀ (τ' : Tg) (H' : Hp) (L' : Ads), MRA K a τ' H' E L' p (st0 E fu) → L'.Y = L.Y → GM K τ τ' H H' → Q .non H'
theorem AI.kt {K : PySem.W.Frag} {H H' : Hp} {p C d : Addr} {fs : List (Str × V)} {o : HO} (h : AI H H' p o) (hp : H p = some (.ins C d fs)) : KT K H H' := fun a xs e => by
  rcases e with (e | ⟨u, e⟩) | e
  · exact .inl (.inl (h.k _ _ e (ne_of e hp fun z => nomatch z)))
  · exact .inl (.inr ⟨u, h.k _ _ e (ne_of e hp fun z => nomatch z)⟩)
  · exact .inr e
section
variable {P : Program} {w : World} {K : PySem.W.Frag} {mg : Str → Option Value} {base : Heap} {a : Ad}
theorem EvR.newM {τ : Tg} {H : Hp} {E : Ev} {L : Ads} {e i r f : Addr} (h : EvR K a τ H E L) : EvR K a τ H E (newM L e i r f) := ⟨h.m, fun k u e => ⟨(h.u k u e).o⟩, h.l, fun k u e => ⟨(h.y k u e).o⟩⟩
theorem ok_Machine___init__ (T : Txt w K mg a) : FnOk P w K mg base CX0 5 a.f_Machine___init__ a.d_Machine___init__ ["self", "module", "layouts", "inputs", "fuel"] (spMaI K a) := by
  have G_Events___init__ : FnOk P w K mg base CX0 1 _ _ _ _ := ok_Events___init__ T
  have G_Fuel___init__ : FnOk P w K mg base CX0 1 _ _ _ _ := ok_Fuel___init__ T
  have G_Machine_activate : FnOk P w K mg base CX0 3 _ _ _ _ := ok_activate T
  refine T.F_Machine___init__.ok sc_Machine___init__ (fun vs H Q E h => ?_) (fun cdv A outer s H vs Q E hr h => ?_)
  · obtain ⟨_, _, _, _, _, _, _, rfl, _⟩ := h; rfl
  · obtain ⟨τ, p, dx, l, Ev', L, fu, rfl, hp, hE, hl, hn, har, hcl, q⟩ := h
    refine ⟨_, (pss_cons (ps_fld (pv 0) (pv 1) rfl)
      (pss_cons (ps_fld (pv 0) (pv 2) rfl)
      (pss_cons (ps_fld (pv 0) (pe_make T.mk_Events G_Events___init__ (hr.mono (by decide)) rfl T.g_Events T.bd_Events___init__ .nil pass0 (pa_cons (pv 3) pa_nil)) rfl)
      (pss_cons (ps_fld (pv 0) (pe_make T.mk_Fuel G_Fuel___init__ (hr.mono (by decide)) rfl T.g_Fuel T.bd_Fuel___init__ .nil pass0 (pa_cons (pv 4) pa_nil)) rfl)
      (pss_cons (ps_fld (pv 0) pe_non rfl)
      (pss_cons (ps_fld (pv 0) pe_non rfl)
      (pss_one (ps_expr (pe_meth (pv 0) T.cl_Machine T.m_Machine_activate G_Machine_activate (hr.mono (by decide)) T.bd_Machine_activate .nil pass0 (pa_cons pe_int (pa_cons pe_non (pa_cons (pe_lst pa_nil) pa_nil)))))))))))), ?_⟩
    have A0 : AI H H p (.ins a.C_Machine dx []) := ⟨hp.1, fun _ _ e _ => e⟩
    have npl : l ≠ p := ne_of hl hp.1 (by intro z; cases z)
    refine ⟨_, rfl, _, rfl, p, a.C_Machine, dx, [], rfl, A0.e, T.cl_Machine, T.n_Machine_module, (by show 0 < 1000; decide), ?_⟩
    have A1 := A0.put (o' := .ins a.C_Machine dx (putF "module" (.ref L.mo) []))
    refine ⟨_, rfl, _, rfl, p, a.C_Machine, dx, _, rfl, A1.e, T.cl_Machine, T.n_Machine_layouts, mcF_len1 _, ?_⟩
    have A2 := A1.put (o' := .ins a.C_Machine dx (putF "layouts" (.ref L.lo) (putF "module" (.ref L.mo) [])))
    generalize upd (upd H p (.ins a.C_Machine dx (putF "module" (.ref L.mo) []))) p (.ins a.C_Machine dx (putF "layouts" (.ref L.lo) (putF "module" (.ref L.mo) []))) = H2 at A2
    refine ⟨_, rfl, fun x1 dx1 nx1 ndx1 ndx1x => ?_⟩
    have nx1' : upd H2 dx1 (.own x1) x1 = none := by rw [upd_ne ndx1x.symm]; exact nx1
    have A3 := (A2.new (x := .own x1) ndx1).new (x := .ins a.C_Events dx1 []) nx1'
    have hx1 : H x1 = none := A2.none nx1
    have px1 : p ≠ x1 := fun z => by rw [← z] at hx1; rw [hp.1] at hx1; cases hx1
    refine ⟨x1, dx1, l, _, rfl, upd_same, A3.k _ _ hl npl, fun inl rw' H3 n1 n2 n3 e1 e2 e3 k3 => ⟨rfl, ?_⟩⟩
    have A4 : AI H H3 p (.ins a.C_Machine dx (putF "layouts" (.ref L.lo) (putF "module" (.ref L.mo) []))) := ⟨k3 _ _ A3.e px1, fun b y e nb => k3 _ _ (A3.k b y e nb) (ne_of_none e hx1)⟩
    have hinl : H inl = none := A3.none n1
    have hrw : H rw' = none := A3.none n2
    have pin : p ≠ inl := fun z => by rw [← z] at hinl; rw [hp.1] at hinl; cases hinl
    have prw : p ≠ rw' := fun z => by rw [← z] at hrw; rw [hp.1] at hrw; cases hrw
    have x1in : x1 ≠ inl := fun z => by rw [← z, upd_same] at n1; cases n1
    have x1rw : x1 ≠ rw' := fun z => by rw [← z, upd_same] at n2; cases n2
    refine ⟨_, rfl, p, a.C_Machine, dx, _, rfl, A4.e, T.cl_Machine, T.n_Machine_events, mcF_len2 _ _, ?_⟩
    have A5 := A4.put (o' := .ins a.C_Machine dx (putF "events" (.ref x1) (putF "layouts" (.ref L.lo) (putF "module" (.ref L.mo) []))))
    have f1 : upd H3 p (.ins a.C_Machine dx (putF "events" (.ref x1) (putF "layouts" (.ref L.lo) (putF "module" (.ref L.mo) [])))) x1 = _ := (upd_ne px1.symm).trans e1
    have f2 : upd H3 p (.ins a.C_Machine dx (putF "events" (.ref x1) (putF "layouts" (.ref L.lo) (putF "module" (.ref L.mo) [])))) inl = _ := (upd_ne pin.symm).trans e2
    have f3 : upd H3 p (.ins a.C_Machine dx (putF "events" (.ref x1) (putF "layouts" (.ref L.lo) (putF "module" (.ref L.mo) [])))) rw' = _ := (upd_ne prw.symm).trans e3
    generalize upd H3 p (.ins a.C_Machine dx (putF "events" (.ref x1) (putF "layouts" (.ref L.lo) (putF "module" (.ref L.mo) [])))) = H4 at A5 f1 f2 f3
    refine ⟨_, rfl, fun x2 dx2 nx2 ndx2 ndx2x => ?_⟩
    have nx2' : upd H4 dx2 (.own x2) x2 = none := by rw [upd_ne ndx2x.symm]; exact nx2
    have hx2 : H x2 = none := A5.none nx2
    have px2 : p ≠ x2 := fun z => by rw [← z] at hx2; rw [hp.1] at hx2; cases hx2
    refine ⟨x2, dx2, fu, rfl, upd_same, rfl, ?_⟩
    rw [upd_upd]
    have A6 := (A5.new (x := .own x2) ndx2).new (x := .ins a.C_Fuel dx2 (fuF fu)) nx2'
    have keep6 : ∀ b y, H4 b = some y → upd (upd H4 dx2 (.own x2)) x2 (.ins a.C_Fuel dx2 (fuF fu)) b = some y := fun b y e => by rw [upd_ne (ne_of_none e nx2), upd_ne (ne_of_none e ndx2)]; exact e
    have f4 : upd (upd H4 dx2 (.own x2)) x2 (.ins a.C_Fuel dx2 (fuF fu)) x2 = some (.ins a.C_Fuel dx2 (fuF fu)) := upd_same
    have g1 := keep6 _ _ f1
    have g2 := keep6 _ _ f2
    have g3 := keep6 _ _ f3
    have x2x1 : x1 ≠ x2 := ne_of_none f1 nx2
    have x2in : inl ≠ x2 := ne_of_none f2 nx2
    have x2rw : rw' ≠ x2 := ne_of_none f3 nx2
    generalize upd (upd H4 dx2 (.own x2)) x2 (.ins a.C_Fuel dx2 (fuF fu)) = H5 at A6 f4 g1 g2 g3
    refine ⟨_, rfl, p, a.C_Machine, dx, _, rfl, A6.e, T.cl_Machine, T.n_Machine_fuel, mcF_len3 _ _ _, ?_⟩
    have A7 := A6.put (o' := .ins a.C_Machine dx (putF "fuel" (.ref x2) (putF "events" (.ref x1) (putF "layouts" (.ref L.lo) (putF "module" (.ref L.mo) [])))))
    refine ⟨_, rfl, p, a.C_Machine, dx, _, rfl, A7.e, T.cl_Machine, T.n_Machine_current, mcF_len4 _ _ _ _, ?_⟩
    have A8 := A7.put (o' := .ins a.C_Machine dx (putF "current" .non (putF "fuel" (.ref x2) (putF "events" (.ref x1) (putF "layouts" (.ref L.lo) (putF "module" (.ref L.mo) []))))))
    refine ⟨_, rfl, p, a.C_Machine, dx, _, rfl, A8.e, T.cl_Machine, T.n_Machine_ending, mcF_len5 _ _ _ _ _, ?_⟩
    rw [mcF_mk, upd_upd, upd_upd]
    have A9 := A6.put (o' := .ins a.C_Machine dx (mcF L.mo L.lo x1 x2 .non .non))
    have k9 : ∀ b y, b ≠ p → H5 b = some y → upd H5 p (.ins a.C_Machine dx (mcF L.mo L.lo x1 x2 .non .non)) b = some y := fun b y n e => by rw [upd_ne n]; exact e
    have i1 := k9 _ _ px1.symm g1
    have i2 := k9 _ _ pin.symm g2
    have i3 := k9 _ _ prw.symm g3
    have i4 := k9 _ _ px2.symm f4
    generalize upd H5 p (.ins a.C_Machine dx (mcF L.mo L.lo x1 x2 .non .non)) = H6 at A9 i1 i2 i3 i4
    have kt : KT K H H6 := A9.kt hp.1
    have hag : ∀ b, H b ≠ none → (tgN (tgN (tgN (tgN τ x1 (5, 1, 0)) inl (5, 2, 0)) rw' (5, 3, 0)) x2 (5, 4, 0)) b = τ b := fun b e => by
      rw [tg_ne (fun z => e (by rw [z]; exact hx2)), tg_ne (fun z => e (by rw [z]; exact hrw)), tg_ne (fun z => e (by rw [z]; exact hinl)), tg_ne (fun z => e (by rw [z]; exact hx1))]
    have t1 : (tgN (tgN (tgN (tgN τ x1 (5, 1, 0)) inl (5, 2, 0)) rw' (5, 3, 0)) x2 (5, 4, 0)) x1 = (5, 1, 0) := by rw [tg_ne x2x1, tg_ne x1rw, tg_ne x1in, tg_same]
    have t2 : (tgN (tgN (tgN (tgN τ x1 (5, 1, 0)) inl (5, 2, 0)) rw' (5, 3, 0)) x2 (5, 4, 0)) inl = (5, 2, 0) := by rw [tg_ne x2in, tg_ne n3, tg_same]
    have t3 : (tgN (tgN (tgN (tgN τ x1 (5, 1, 0)) inl (5, 2, 0)) rw' (5, 3, 0)) x2 (5, 4, 0)) rw' = (5, 3, 0) := by rw [tg_ne x2rw, tg_same]
    have t4 : (tgN (tgN (tgN (tgN τ x1 (5, 1, 0)) inl (5, 2, 0)) rw' (5, 3, 0)) x2 (5, 4, 0)) x2 = (5, 4, 0) := tg_same
    generalize tgN (tgN (tgN (tgN τ x1 (5, 1, 0)) inl (5, 2, 0)) rw' (5, 3, 0)) x2 (5, 4, 0) = τ6 at hag t1 t2 t3 t4
    have hs : Stp τ τ6 [5] H H6 := ⟨fun b o e n => A9.k b o e (fun z => n (by rw [z, hp.2]; simp)), hag, fun b e => by
      by_cases z : b = p
      · rw [z, A9.e]; exact fun z => nomatch z
      · obtain ⟨o, ho⟩ := Option.ne_none_iff_exists'.mp e
        rw [A9.k b o ho z]; exact fun z => nomatch z⟩
    have B6 : MRB K a τ6 H6 Ev' (newM L x1 inl rw' x2) ⟨[], [], 0, fu, none⟩ := ⟨⟨dx1, i1, t1⟩, ⟨i2, t2⟩, ⟨[], ⟨i3, t3⟩, .nil⟩, ⟨dx2, i4, t4⟩, (hE.st hs (by simp) (by simp) kt).newM⟩
    have hM6 : At τ6 H6 p (.ins a.C_Machine dx (mcF L.mo L.lo x1 x2 .non .non)) (5, 0, 0) := ⟨A9.e, (hag p (some_ne hp.1)).trans hp.2⟩
    refine ⟨_, rfl, p, dx, _, rfl, hM6.1, mcF_no_activate _ _ _ _ _ _, (by show 0 ≤ sizeLine; decide), fun al nal => ?_⟩
    have G6 : GM K τ τ6 H H6 := ⟨hs.mono (by simp), kt⟩
    refine ⟨tgN τ6 al (0, 0, 0), p, Ev', newM L x1 inl rw' x2, ⟨[], [], 0, fu, none⟩, 0, none, al, [], dx, rfl, hM6.new nal, trivial, B6.nw nal, upd_same, by rw [tg_same]; decide, rfl, hn, har.symm, by rw [har]; exact Nat.zero_le _, hcl, (fun c m => by cases m), (fun m e => by cases e), fun τ' H' L' R' eY G' => q τ' H' L' R' eY ((G6.new (x := (0, 0, 0)) nal).tr G')⟩
end

/-! ### a run -/
def runS (E : Ev) : Nat → Ms → Ms
  | 0, S => S
  | n + 1, S => match S.en with
    | none => runS E n (stepS E S)
    | some _ => S
theorem runS_end {E : Ev} {e : En} : ∀ {n : Nat} {S : Ms}, S.en = some e → runS E n S = S
  | 0, _, _ => rfl
  | n + 1, S, h => by unfold runS; rw [h]
theorem runS_go {E : Ev} {n : Nat} {S : Ms} (h : S.en = none) : runS E (n + 1) S = runS E n (stepS E S) := by
  show (match S.en with | none => runS E n (stepS E S) | some _ => S) = _
  rw [h]
theorem runS_snoc {E : Ev} : ∀ {n : Nat} {S : Ms}, (runS E n S).en = none → runS E (n + 1) S = stepS E (runS E n S)
  | 0, S, h => runS_go (n := 0) h
  | n + 1, S, h => by
    cases e : S.en with
    | some z => rw [runS_end e] at h; rw [e] at h; cases h
    | none =>
      have e1 : runS E (n + 1) S = runS E n (stepS E S) := runS_go e
      have e2 : runS E (n + 1 + 1) S = runS E (n + 1) (stepS E S) := runS_go e
      rw [e1] at h ⊢
      rw [e2]
      exact runS_snoc h
def spFin (K : PySem.W.Frag) (a : Ad) : Sp := fun vs H Q _ => ∃ (τ : Tg) (M : Addr) (E : Ev) (L : Ads) (S : Ms) (J : Ms → Prop) (Φ : Ms → Nat), vs = [.ref M] ∧ MRA K a τ H E L M S ∧ J S ∧ (∀ S, J S → S.en = none → StepOk E S ∧ J (stepS E S) ∧ Φ (stepS E S) < Φ S) ∧
  ∀ (n : Nat) (e : En) (v : V) (τ' : Tg) (H' : Hp), (runS E n S).en = some e → DT K H' v (.tuple [.tuple ((runS E n S).ev.map evD), enD E e]) → GM K τ τ' H H' → Q v H'
section
variable {P : Program} {w : World} {K : PySem.W.Frag} {mg : Str → Option Value} {base : Heap} {a : Ad}
theorem ok_finish (T : Txt w K mg a) : FnOk P w K mg base CX0 9 a.f_Machine_finish a.d_Machine_finish ["self"] (spFin K a) := by
  have G_Machine_step : FnOk P w K mg base CX0 8 _ _ _ _ := ok_step T
  have G_Events_rows : FnOk P w K mg base CX0 1 _ _ _ _ := ok_Events_rows T
  refine T.F_Machine_finish.ok sc_Machine_finish (fun vs H Q E h => ?_) (fun cdv A outer s H vs Q E hr h => ?_)
  · obtain ⟨_, _, _, _, _, _, _, rfl, _⟩ := h; rfl
  · obtain ⟨τ, M, Ev', L, S, J, Φ, rfl, R, j0, js, q⟩ := h
    refine ⟨_, (pss_cons (ps_while PassesOwn.never (pt_cmpR op_isN (pe_fld (pv 0) rfl) pe_non (nomark _)) (pss_one (ps_expr (pe_meth0 (pv 0) T.cl_Machine T.m_Machine_step G_Machine_step (hr.mono (by decide)) T.bd_Machine_step .nil pass0))))
      (pss_one (ps_ret (pe_tup (pa_cons (pe_prop (pe_fld (pv 0) rfl) T.cl_Events T.pr_Events_rows G_Events_rows (hr.mono (by decide)) T.bd_Events_rows .nil pass0 rfl) (pa_cons (pe_fld (pv 0) rfl) pa_nil)))))), ?_⟩
    refine ⟨fun m σ H' => ∃ (k : Nat) (τ' : Tg) (L' : Ads), m = Φ (runS Ev' k S) ∧ MRA K a τ' H' Ev' L' M (runS Ev' k S) ∧ J (runS Ev' k S) ∧ GM K τ τ' H H' ∧ σ = [some (.ref M)], ⟨_, 0, τ, L, rfl, R, j0, GM.refl, rfl⟩, ?_⟩
    rintro m σ H' ⟨k, τ', L', rfl, R', j', G', rfl⟩
    obtain ⟨dm, cur, en, hM, hrun, hend⟩ := id R'.m.m
    refine ⟨_, rfl, M, a.C_Machine, dm, _, _, rfl, hM.1, T.cl_Machine, T.n_Machine_ending, mcF_ending _ _ _ _ _ _, rfl, _, rfl, ?_⟩
    cases ee : (runS Ev' k S).en with
    | none =>
      obtain ⟨rfl, rfl, hne⟩ := hrun ee
      obtain ⟨h1, h2, h3⟩ := js _ j' ee
      refine iteT ⟨_, fun _ _ h => h, ?_⟩
      refine ⟨_, rfl, M, dm, _, rfl, hM.1, mcF_no_step _ _ _ _ _ _, τ', M, Ev', L', _, rfl, R', ee, h1, fun τ2 H2 L2 R2 eY G2 => ?_⟩
      rw [← runS_snoc ee] at R2 h2 h3
      exact ⟨_, h3, k + 1, τ2, L2, rfl, R2, h2, G'.tr G2, rfl⟩
    | some e =>
      have hd := hend e ee
      have hnn : decide (en = V.non) = false := by
        refine decide_eq_false fun z => ?_
        subst z
        cases e <;> cases hd
      rw [hnn]
      refine iteF ?_
      obtain ⟨dx2, hE⟩ := R'.b.e
      obtain ⟨ws, hR, hD⟩ := R'.b.r
      refine ⟨_, rfl, M, a.C_Machine, dm, _, _, rfl, hM.1, T.cl_Machine, T.n_Machine_events, mcF_events _ _ _ _ _ _, _, dx2, _, rfl, hE.1, _, dx2, _, _, _, ws, rfl, hE.1, hR.1, fun z nz => ?_⟩
      refine ⟨_, rfl, M, a.C_Machine, dm, _, _, rfl, (hM.new (y := (0, 0, 0)) nz).1, T.cl_Machine, T.n_Machine_ending, mcF_ending _ _ _ _ _ _, (by show 2 ≤ sizeLine; decide), fun p np => ?_⟩
      have kk := (KT.new (K := K) nz (o := .tup ws)).tr (KT.new np (o := .tup [.ref z, en]))
      refine q k e _ _ _ ee (.tup (.inl (.inl upd_same)) (.cons (.tup (KT.new np _ _ (.inl (.inl upd_same))) (hD.keep kk)) (.cons (hd.keep kk) .nil))) ((G'.new (x := (0, 0, 0)) nz).new (x := (0, 0, 0)) np)
end

/-! ### layouts -/
structure Lay (K : PySem.W.Frag) (a : Ad) (H0 H : Hp) (y : Addr) (g ar : Nat) : Prop where
  o : ∃ (dx wa ia ea ka : Addr), H y = some (.ins a.C_Layout dx (lyF wa ia ea ka)) ∧ H0 y = none ∧ SqT K H wa (rgV' g) ∧ H ia = some (.lst ((List.replicate g (0 : Int)).map V.int)) ∧ H0 ia = none ∧ SqT K H ea (rgV' ar) ∧ SqT K H ka []
theorem Lay.mono {K : PySem.W.Frag} {a : Ad} {H0 H H' : Hp} {y : Addr} {g ar : Nat} (h : Lay K a H0 H y g ar) (s : Same H H') : Lay K a H0 H' y g ar := by
  obtain ⟨dx, wa, ia, ea, ka, h1, h2, h3, h4, h5, h6, h7⟩ := h.o
  exact ⟨⟨dx, wa, ia, ea, ka, s _ _ h1, h2, KT.same s _ _ h3, s _ _ h4, h5, KT.same s _ _ h6, KT.same s _ _ h7⟩⟩
def spPl (K : PySem.W.Frag) (a : Ad) : Sp := fun vs H Q _ => ∃ (p dx : Addr) (v0 v2 v4 v5 v6 : V) (g ar : Nat), vs = [.ref p] ∧ H p = some (.ins a.C_Unit dx (unF v0 (.int (ar : Int)) v2 (.int (g : Int)) v4 v5 v6)) ∧ g ≤ 1000 ∧ ar ≤ g ∧ ∀ y H', Lay K a H H' y g ar → Same H H' → Q (.ref y) H'
theorem un_ar_n : ¬ ("arguments" : Str) = "regions" ∧ ¬ ("arguments" : Str) = "code" ∧ ¬ ("arguments" : Str) = "cells" ∧ ¬ ("arguments" : Str) = "registers" ∧ ¬ ("arguments" : Str) = "results" := by decide +kernel
theorem un_ar' (v0 v1 v2 v3 v4 v5 v6 : V) : (unF v0 v1 v2 v3 v4 v5 v6).lookup ("arguments" : Str) = some v1 :=
  ((lookup_putF "regions" "arguments" v6 _).trans (if_neg un_ar_n.1)).trans (((lookup_putF "code" "arguments" v5 _).trans (if_neg un_ar_n.2.1)).trans (((lookup_putF "cells" "arguments" v4 _).trans (if_neg un_ar_n.2.2.1)).trans (((lookup_putF "registers" "arguments" v3 _).trans (if_neg un_ar_n.2.2.2.1)).trans (((lookup_putF "results" "arguments" v2 _).trans (if_neg un_ar_n.2.2.2.2)).trans ((lookup_putF "arguments" "arguments" v1 _).trans (if_pos rfl))))))
theorem un_rs_n : ¬ ("registers" : Str) = "regions" ∧ ¬ ("registers" : Str) = "code" ∧ ¬ ("registers" : Str) = "cells" := by decide +kernel
theorem un_rs' (v0 v1 v2 v3 v4 v5 v6 : V) : (unF v0 v1 v2 v3 v4 v5 v6).lookup ("registers" : Str) = some v3 :=
  ((lookup_putF "regions" "registers" v6 _).trans (if_neg un_rs_n.1)).trans (((lookup_putF "code" "registers" v5 _).trans (if_neg un_rs_n.2.1)).trans (((lookup_putF "cells" "registers" v4 _).trans (if_neg un_rs_n.2.2)).trans ((lookup_putF "registers" "registers" v3 _).trans (if_pos rfl))))
section
variable {P : Program} {w : World} {K : PySem.W.Frag} {mg : Str → Option Value} {base : Heap} {a : Ad}
theorem ok_plain_layout (T : Txt w K mg a) : FnOk P w K mg base CX0 3 a.f_plain_layout a.d_plain_layout ["unit"] (spPl K a) := by
  have G_Layout___init__ : FnOk P w K mg base CX0 1 _ _ _ _ := ok_Layout___init__ T
  refine T.F_plain_layout.ok sc_plain_layout (fun vs H Q E h => ?_) (fun cdv A outer s H vs Q E hr h => ?_)
  · obtain ⟨_, _, _, _, _, _, _, _, _, rfl, _⟩ := h; rfl
  · obtain ⟨p, dx, v0, v2, v4, v5, v6, g, ar, rfl, hp, hg, hag, q⟩ := h
    refine ⟨_, (pss_cons (ps_set (i := 1) sc_plain_layout.nd rfl (Or.inl rfl) (pe_tupRg rfl (by rfl) T.b_tuple (prg_1 (by rfl) T.b_range (pe_fld (pv 0) rfl))))
      (pss_one (ps_ret (pe_make T.mk_Layout G_Layout___init__ (hr.mono (by decide)) rfl T.g_Layout T.bd_Layout___init__ .nil pass0 (pa_cons (pv 1) (pa_cons (pe_op op_rep (pe_lst (pa_cons pe_int pa_nil)) (pe_fld (pv 0) rfl)) (pa_cons (pe_slice sl_tupA (pv 1) po_none (po_some (pe_fld (pv 0) rfl))) (pa_cons (pe_tup pa_nil) pa_nil)))))))), ?_⟩
    refine ⟨_, rfl, p, a.C_Unit, dx, _, _, rfl, hp, T.cl_Unit, T.n_Unit_registers, un_rs' _ _ _ _ _ _ _, ?_⟩
    refine ⟨_, rfl, ⟨by omega, by omega, by omega, by omega, by omega⟩, fun wa nwa => ?_⟩
    refine ⟨_, rfl, (by show 1 ≤ sizeLine; decide), fun l1 nl1 => ?_⟩
    have s1 : Same H (upd H wa (.tup (rgV 0 (g : Int)))) := sN (Same.refl H) nwa
    have s2 := sN s1 nl1 (o := .lst [.int 0])
    refine ⟨_, rfl, p, a.C_Unit, dx, _, _, rfl, s2 _ _ hp, T.cl_Unit, T.n_Unit_registers, un_rs' _ _ _ _ _ _ _, _, _, _, rfl, rfl, upd_same, by omega, by omega, (by have := small1000 hg; simp; omega), fun ia nia => ?_⟩
    have ew : rgV 0 (g : Int) = rgV' g := by unfold rgV rgV'; simp
    have s3 := sN s2 nia (o := .lst ((List.replicate ((g : Int)).toNat [V.int 0]).flatten))
    have hwa : SqT K (upd (upd (upd H wa (.tup (rgV 0 (g : Int)))) l1 (.lst [.int 0])) ia (.lst ((List.replicate ((g : Int)).toNat [V.int 0]).flatten))) wa (rgV' g) := by
      rw [← ew]
      exact KT.new nia _ _ (KT.new nl1 _ _ (SqT.of (K := K) upd_same))
    have hia : upd (upd (upd H wa (.tup (rgV 0 (g : Int)))) l1 (.lst [.int 0])) ia (.lst ((List.replicate ((g : Int)).toNat [V.int 0]).flatten)) ia = some (.lst ((List.replicate g (0 : Int)).map V.int)) := by rw [upd_same, Int.toNat_natCast, rep_int]
    have nia0 : H ia = none := by
      cases e : H ia with
      | none => rfl
      | some y => rw [s2 _ _ e] at nia; cases nia
    generalize upd (upd (upd H wa (.tup (rgV 0 (g : Int)))) l1 (.lst [.int 0])) ia (.lst ((List.replicate ((g : Int)).toNat [V.int 0]).flatten)) = H3 at s3 hwa hia
    have fin : ∀ (H4 : Hp) (ea ka y dy : Addr), Same H3 H4 → SqT K H4 ea (rgV' ar) → H4 ka = none → (upd H4 ka (.tup [])) y = none → (upd H4 ka (.tup [])) dy = none → dy ≠ y →
        spLyI K a [.ref y, .ref wa, .ref ia, .ref ea, .ref ka] (upd (upd (upd H4 ka (.tup [])) dy (.own y)) y (.ins a.C_Layout dy [])) (fun v H2 => v = V.non ∧ Q (.ref y) H2) E0 := fun H4 ea ka y dy s4 hea nka ny ndy nd => by
      have s5 := sN (s3.trans s4) nka (o := .tup [])
      have s6 := sN s5 ndy (o := .own y)
      have ny' : upd (upd H4 ka (.tup [])) dy (.own y) y = none := by rw [upd_ne nd.symm]; exact ny
      have s7 := sN s6 ny' (o := .ins a.C_Layout dy (lyF wa ia ea ka))
      have t5 : Same H4 (upd (upd (upd H4 ka (.tup [])) dy (.own y)) y (.ins a.C_Layout dy (lyF wa ia ea ka))) := sN (sN (sN (Same.refl H4) nka) ndy) ny'
      have t3 := s4.trans t5
      refine ⟨y, dy, wa, ia, ea, ka, rfl, upd_same, ?_⟩
      rw [upd_upd]
      refine ⟨rfl, q y _ ⟨⟨dy, wa, ia, ea, ka, upd_same, ?_, KT.same t3 _ _ hwa, t3 _ _ hia, nia0, KT.same t5 _ _ hea, ?_⟩⟩ s7⟩
      · cases e : H y with
        | none => rfl
        | some z => rw [s6 _ _ e] at ny'; cases ny'
      · exact KT.new ny' _ _ (KT.new ndy _ _ (SqT.of (K := K) upd_same))
    have hlg : (rgV' g).length = g := by unfold rgV'; simp
    refine ⟨_, rfl, _, rfl, p, a.C_Unit, dx, _, _, rfl, s3 _ _ hp, T.cl_Unit, T.n_Unit_arguments, un_ar' _ _ _ _ _ _ _, _, rfl, wa, _, rfl, hwa, fun hw => ?_, fun hw ea nea => ?_⟩
    · have e : ar = g := by
        have h2 := hw.2
        rw [hlg, HT.sIx_nat] at h2
        omega
      exact ⟨(by show 0 ≤ sizeLine; decide), fun ka nka y dy ny ndy nd => fin _ wa ka y dy (Same.refl _) (by rw [e]; exact hwa) nka ny ndy nd⟩
    · have ec : cutV (rgV' g) none (some (ar : Int)) = rgV' ar := by
        rw [cut_hi]
        unfold rgV'
        rw [← List.map_take, List.take_range, Nat.min_eq_left hag]
      rw [ec]
      exact ⟨(by show 0 ≤ sizeLine; decide), fun ka nka y dy ny ndy nd => fin _ ea ka y dy (sN (Same.refl _) nea) (SqT.of (K := K) upd_same) nka ny ndy nd⟩
end

/-! ### run_module -/
def L0 (mo lo : Addr) (U Y : Nat → Addr) : Ads := ⟨0, 0, 0, 0, lo, mo, fun _ => 0, fun _ => 0, fun _ => 0, U, Y⟩
/-- a module in the heap -/
structure ModH (K : PySem.W.Frag) (a : Ad) (H : Hp) (E : Ev) (mo : Addr) (U : Nat → Addr) : Prop where
  m : ∃ (dx na pa ua : Addr), H mo = some (.ins a.C_Module dx (moF (.ref ua) (.ref na) (.ref pa))) ∧ SqT K H ua ((List.range E.us.length).map fun k => V.ref (U k)) ∧ DT K H (.ref na) (.tuple (E.nms.map .str)) ∧ DT K H (.ref pa) (.tuple (E.pls.map plD))
  u : ∀ (k : Nat) (u : UI), E.us[k]? = some u → ∃ (dx ca ra : Addr) (us ws : List V), H (U k) = some (.ins a.C_Unit dx (unF (.int u.par) (.int u.ar) (.int u.rs) (.int u.g) (.int u.cl) (.ref ca) (.ref ra))) ∧ SqT K H ca us ∧ DTs K H us (u.xs.map In.D) ∧ SqT K H ra ws ∧ DTs K H ws (u.rg.map regD)
  z : ∀ (k : Nat) (u : UI), E.us[k]? = some u → u.g ≤ 1000 ∧ u.ar ≤ u.g ∧ u.cl ≤ 1000
  n : E.us.length ≤ 1000 ∧ 0 < E.us.length ∧ (E.u 0).ar = 0
theorem ModH.mono {K : PySem.W.Frag} {a : Ad} {H H' : Hp} {E : Ev} {mo : Addr} {U : Nat → Addr} (h : ModH K a H E mo U) (s : Same H H') : ModH K a H' E mo U := by
  obtain ⟨dx, na, pa, ua, h1, h2, h3, h4⟩ := h.m
  refine ⟨⟨dx, na, pa, ua, s _ _ h1, KT.same s _ _ h2, h3.keep (.same s), h4.keep (.same s)⟩, fun k u e => ?_, h.z, h.n⟩
  obtain ⟨dx, ca, ra, us, ws, g1, g2, g3, g4, g5⟩ := h.u k u e
  exact ⟨dx, ca, ra, us, ws, s _ _ g1, KT.same s _ _ g2, g3.keep (.same s), KT.same s _ _ g4, g5.keep (.same s)⟩
/-- the layouts' list -/
structure LoH (K : PySem.W.Frag) (a : Ad) (H0 H : Hp) (E : Ev) (lo : Addr) (ys : List Addr) (n : Nat) : Prop where
  l : H lo = some (.lst (ys.map V.ref))
  z : H0 lo = none
  k : ys.length = n
  y : ∀ (k : Nat) (u : UI) (y : Addr), E.us[k]? = some u → ys[k]? = some y → ∃ Hm, Lay K a Hm H y u.g u.ar ∧ Hm lo ≠ none ∧ Same H0 Hm
open Classical in
/-- whose an address is, where the old heap is H0 -/
noncomputable def tg0 (H0 H : Hp) (mo lo : Addr) : Tg := fun b => if b = mo then (2, 1, 0) else if H0 b ≠ none then (2, 0, 0) else if b = lo then (9, 0, 0) else match H b with
  | some (.lst _) => (9, 2, 0)
  | _ => (9, 1, 0)
theorem EvR.mk0 {K : PySem.W.Frag} {a : Ad} {H0 H : Hp} {E : Ev} {mo lo : Addr} {U : Nat → Addr} {ys : List Addr} (m : ModH K a H0 E mo U) (s : Same H0 H) (l : LoH K a H0 H E lo ys E.us.length) : EvR K a (tg0 H0 H mo lo) H E (L0 mo lo U fun k => ys.getD k 0) := by
  have m1 := m.mono s
  obtain ⟨dx0, na0, pa0, ua0, b1, _⟩ := m.m
  have t2 : ∀ b o, H0 b = some o → b ≠ mo → tg0 H0 H mo lo b = (2, 0, 0) := fun b o e n => by
    unfold tg0
    rw [if_neg n, if_pos (by rw [e]; exact fun z => nomatch z)]
  have t9 : ∀ b, H0 b = none → b ≠ mo := fun b e z => by rw [z, b1] at e; cases e
  obtain ⟨dx, na, pa, ua, h1, h2, h3, h4⟩ := m1.m
  have eys : ys.map V.ref = (List.range E.us.length).map fun k => V.ref (ys.getD k 0) := by
    refine List.ext_getElem? fun i => ?_
    rw [List.getElem?_map, List.getElem?_map]
    by_cases hi : i < E.us.length
    · rw [List.getElem?_range hi]
      have : i < ys.length := by rw [l.k]; exact hi
      simp [List.getD, this]
    · rw [List.getElem?_eq_none (by rw [l.k]; omega), List.getElem?_eq_none (by simp; omega)]; rfl
  refine ⟨⟨dx, na, pa, ua, ⟨h1, by unfold tg0; exact if_pos rfl⟩, h2, h3, h4⟩, fun k u e => ?_, ?_, fun k u e => ?_⟩
  · obtain ⟨dx, ca, ra, us, ws, g1, g2, g3, g4, g5⟩ := m1.u k u e
    obtain ⟨dx', ca', ra', us', ws', g1', _⟩ := m.u k u e
    refine ⟨⟨dx, ca, ra, us, ws, ⟨g1, t2 _ _ g1' fun z => ?_⟩, g2, g3, g4, g5⟩⟩
    have z : U k = mo := z
    rw [z, b1] at g1'
    injection g1' with g1'
    injection g1' with _ _ g1'
    have := un_rg (.int u.par) (.int u.ar) (.int u.rs) (.int u.g) (.int u.cl) (.ref ca') (.ref ra')
    rw [← g1'] at this
    exact absurd this (by
      have e1 : (moF (.ref ua0) (.ref na0) (.ref pa0)).lookup ("regions" : Str) = none := mo_rg _ _ _
      rw [e1]; exact fun z => nomatch z)
  · show At _ H lo _ _
    refine ⟨by rw [l.l, eys]; rfl, ?_⟩
    unfold tg0
    rw [if_neg (t9 _ l.z), if_neg (by rw [l.z]; simp), if_pos rfl]
  · have hk : k < ys.length := by rw [l.k]; exact (List.getElem?_eq_some_iff.mp e).1
    obtain ⟨Hm, hl, hlo, hsm⟩ := l.y k u ys[k] e (by simp [hk])
    obtain ⟨dx, wa, ia, ea, ka, g1, g2m, g3, g4, g5m, g6, g7⟩ := hl.o
    have none0 : ∀ b, Hm b = none → H0 b = none := fun b z => by
      cases z2 : H0 b with
      | none => rfl
      | some o => rw [hsm _ _ z2] at z; cases z
    have g2 := none0 _ g2m
    have g5 := none0 _ g5m
    have ek : (fun k => ys.getD k 0) k = ys[k] := by simp [List.getD, hk]
    refine ⟨⟨dx, wa, ia, ea, ka, ⟨by show H ((fun k => ys.getD k 0) k) = _; rw [ek]; exact g1, ?_⟩, g3, ⟨g4, ?_⟩, g6, g7⟩⟩
    · show tg0 H0 H mo lo ((fun k => ys.getD k 0) k) = _
      rw [ek]
      unfold tg0
      rw [if_neg (t9 _ g2), if_neg (by rw [g2]; simp), if_neg (fun z => by rw [z, l.l] at g1; cases g1), g1]
    · unfold tg0
      rw [if_neg (t9 _ g5), if_neg (by rw [g5]; simp)]
      rw [if_neg (fun z => hlo (by rw [← z]; exact g5m)), g4]

/-! ### a machine over plain layouts -/
theorem Lay.putD {K : PySem.W.Frag} {a : Ad} {Hm H : Hp} {y D : Addr} {g ar : Nat} {l l' : List V} (h : Lay K a Hm H y g ar) (hD : H D = some (.lst l)) (hm : Hm D ≠ none) : Lay K a Hm (upd H D (.lst l')) y g ar := by
  obtain ⟨dx, wa, ia, ea, ka, h1, h2, h3, h4, h5, h6, h7⟩ := h.o
  have kt : KT K H (upd H D (.lst l')) := KT.put hD
  exact ⟨⟨dx, wa, ia, ea, ka, by rw [upd_ne (ne_of h1 hD (by intro z; cases z))]; exact h1, h2, kt _ _ h3, by rw [upd_ne (fun z => hm (by rw [← z]; exact h5))]; exact h4, h5, kt _ _ h6, kt _ _ h7⟩⟩
section
variable {P : Program} {w : World} {K : PySem.W.Frag} {mg : Str → Option Value} {base : Heap} {a : Ad}
theorem mk_mach (T : Txt w K mg a) {σ : St} {s : Nat} {vs : List Nat} {H : Hp} {E : Ev} {mo l : Addr} {U : Nat → Addr} {fu : Int} {Q : VK} (m : ModH K a H E mo U) (hl : H l = some (.lst (E.inp.map V.int))) (e0 : σ[0]? = some (some (.ref mo))) (e1 : σ[1]? = some (some (.ref l))) (e2 : σ[2]? = some (some (.int fu)))
    (hσ : ∀ v, ((wipe σ vs).set s (some v))[s]? = some (some v) ∧ wipe ((wipe σ vs).set s (some v)) vs = wipe σ vs)
    (q : ∀ (M : Addr) (τ : Tg) (H' : Hp) (L : Ads), MRA K a τ H' E L M (st0 E fu) → Same H H' → (∀ b o, H b = some o → (τ b).1 = 2) → Q (.ref M) H') :
    tMake a.C_Machine (spMaI K a) [] E0 (tCons (tVar 0) (tCons (tLc (iTup K (tFld K (tVar 0) "units")) (gName s) tYes (tCall (spPl K a) [] E0 (tCons (tVar s) tNil)) vs) (tCons (tVar 1) (tCons (tVar 2) tNil)))) σ H Q := by
  obtain ⟨dmo, na, pa, ua, m1, m2, m3, m4⟩ := m.m
  refine ⟨_, e0, _, e0, mo, a.C_Module, dmo, _, _, rfl, m1, T.cl_Module, T.n_Module_units, mo_un _ _ _, ua, rfl, ⟨_, m2⟩, fun D nD => ?_⟩
  have hlen : ((List.range E.us.length).map fun k => V.ref (U k)).length = E.us.length := by simp
  refine lc_it (walk_tup (K := K) (a := ua) (xs := (List.range E.us.length).map fun k => V.ref (U k))) (fun i H' => ∃ ys, H' D = some (.lst (ys.map V.ref)) ∧ ys.length = i ∧ Same H H' ∧ ∀ (k : Nat) (u : UI) (y : Addr), E.us[k]? = some u → ys[k]? = some y → ∃ Hm, Lay K a Hm H' y u.g u.ar ∧ Hm D ≠ none ∧ Same H Hm) ⟨[], upd_same, rfl, sN (Same.refl H) nD, fun k u y _ e => by cases e⟩ (fun i H' _ h => by obtain ⟨ys, _, _, hs, _⟩ := h; exact KT.same hs _ _ m2) ?_ ?_
  · rintro i x H1 H2 hi ⟨ys, h1, h2, h3, h4⟩ ⟨rfl, ex⟩
    rw [hlen] at hi
    obtain rfl := Option.some.inj ((rng_at (f := fun k => V.ref (U k)) hi).symm.trans ex)
    obtain ⟨f1, f2⟩ := hσ (V.ref (U i))
    have eu : E.us[i]? = some E.us[i] := List.getElem?_eq_getElem hi
    obtain ⟨dxu, ca, ra, us, ws, u1, u2, u3, u4, u5⟩ := m.u i _ eu
    obtain ⟨z1, z2, z3⟩ := m.z i _ eu
    refine ⟨f2, ?_⟩
    simp only [tYes, if_true]
    refine ⟨_, f1, U i, dxu, _, _, _, _, _, _, _, rfl, h3 _ _ u1, z1, z2, fun y H3 ly s3 => ?_⟩
    refine ⟨_, s3 _ _ h1, by rw [List.length_map, h2]; exact small1000 (by have := m.n.1; omega), ys ++ [y], by rw [upd_same]; simp, by simp [h2], ?_, fun k u y' eu' ey => ?_⟩
    · intro b o e
      rw [upd_ne (ne_of_none e nD)]
      exact s3 _ _ (h3 _ _ e)
    · by_cases hk : k < ys.length
      · rw [List.getElem?_append_left hk] at ey
        obtain ⟨Hm, a1, a2, a3⟩ := h4 k u y' eu' ey
        exact ⟨Hm, (a1.mono s3).putD (s3 _ _ h1) a2, a2, a3⟩
      · have hk2 : k = ys.length := by
          have := (List.getElem?_eq_some_iff.mp ey).1
          simp at this; omega
        subst hk2
        rw [List.getElem?_append_right (Nat.le_refl _), Nat.sub_self] at ey
        obtain rfl := Option.some.inj ey
        rw [h2] at eu'
        obtain rfl := Option.some.inj (eu.symm.trans eu')
        exact ⟨H2, ly.putD (s3 _ _ h1) (by rw [h1]; exact fun z => nomatch z), (by rw [h1]; exact fun z => nomatch z), h3⟩
  · rintro H1 ⟨ys, h1, h2, h3, h4⟩
    rw [hlen] at h2
    have lo : LoH K a H H1 E D ys E.us.length := ⟨h1, nD, h2, h4⟩
    have ev := EvR.mk0 m h3 lo
    refine ⟨_, e1, _, e2, fun x dx nx ndx nd => ?_⟩
    have nx' : upd H1 dx (.own x) x = none := by rw [upd_ne nd.symm]; exact nx
    have hl1 := h3 _ _ hl
    have st : Stp (tg0 H H1 mo D) (tgN (tgN (tg0 H H1 mo D) dx (0, 0, 0)) x (5, 0, 0)) [] H1 (upd (upd H1 dx (.own x)) x (.ins a.C_Machine dx [])) := (Stp.refl.new ndx).new nx'
    have kt : KT K H1 (upd (upd H1 dx (.own x)) x (.ins a.C_Machine dx [])) := (KT.new ndx).tr (KT.new nx')
    refine ⟨_, x, dx, l, E, L0 mo D U fun k => ys.getD k 0, fu, rfl, .mk, ev.st st (by simp) (by simp) kt, ?_, m.n.2.1, m.n.2.2, (m.z 0 _ (Ev.at m.n.2.1)).2.2, fun τ' H' L' R' eY G' => ⟨rfl, ?_⟩⟩
    · rw [upd_ne (ne_of_none hl1 nx), upd_ne (ne_of_none hl1 ndx)]; exact hl1
    · have t2 : ∀ b o, H b = some o → (tgN (tgN (tg0 H H1 mo D) dx (0, 0, 0)) x (5, 0, 0) b).1 = 2 := fun b o e => by
        rw [tg_ne (ne_of_none (h3 _ _ e) nx), tg_ne (ne_of_none (h3 _ _ e) ndx)]
        unfold tg0
        by_cases z : b = mo
        · rw [if_pos z]
        · rw [if_neg z, if_pos (by rw [e]; exact fun z => nomatch z)]
      have s2 : Same H (upd (upd H1 dx (.own x)) x (.ins a.C_Machine dx [])) := sN (sN h3 ndx) nx'
      refine q x τ' H' L' R' (fun b o e => G'.s.fr b o (s2 b o e) (by rw [t2 b o e]; decide)) fun b o e => ?_
      rw [G'.s.ag b (some_ne (s2 b o e))]
      exact t2 b o e
def spRun (K : PySem.W.Frag) (a : Ad) : Sp := fun vs H Q _ => ∃ (mo l : Addr) (fu : Int) (E : Ev) (U : Nat → Addr) (J : Ms → Prop) (Φ : Ms → Nat), vs = [.ref mo, .ref l, .int fu] ∧ ModH K a H E mo U ∧ H l = some (.lst (E.inp.map V.int)) ∧ J (st0 E fu) ∧ (∀ S, J S → S.en = none → StepOk E S ∧ J (stepS E S) ∧ Φ (stepS E S) < Φ S) ∧
  ∀ (n : Nat) (e : En) (v : V) (H' : Hp), (runS E n (st0 E fu)).en = some e → DT K H' v (.tuple [.tuple ((runS E n (st0 E fu)).ev.map evD), enD E e]) → Same H H' → Q v H'
theorem ok_run_module (T : Txt w K mg a) : FnOk P w K mg base CX0 11 a.f_run_module a.d_run_module ["module", "inputs", "fuel"] (spRun K a) := by
  have G_Machine___init__ : FnOk P w K mg base CX0 5 _ _ _ _ := ok_Machine___init__ T
  have G_Machine_finish : FnOk P w K mg base CX0 9 _ _ _ _ := ok_finish T
  have G_plain_layout : FnOk P w K mg base CX0 3 _ _ _ _ := ok_plain_layout T
  refine T.F_run_module.ok sc_run_module (fun vs H Q E h => ?_) (fun cdv A outer s H vs Q E hr h => ?_)
  · obtain ⟨_, _, _, _, _, _, _, rfl, _⟩ := h; rfl
  · obtain ⟨mo, l, fu, Ev', U, J, Φ, rfl, m, hl, j0, js, q⟩ := h
    refine ⟨_, (pss_one (ps_ret (pe_meth0 (pe_make T.mk_Machine G_Machine___init__ (hr.mono (by decide)) rfl T.g_Machine T.bd_Machine___init__ .nil pass0 (pa_cons (pv 0) (pa_cons (pe_lc (own := [("unit", 3)]) (g := gName 3) rfl sc_run_module.nd (pi_tup (pe_fld (pv 0) rfl)) (blkOk_by (own := [("unit", 3)]) (N := ["module", "inputs", "fuel", "unit"]) (sc := defScope s_run_module) (by decide +kernel)) (fun _ _ _ _ _ => pg_name (i := 3) sc_run_module.nd rfl (Or.inl rfl)) (fun _ _ _ _ _ => pts_nil) (fun _ _ _ _ _ => (pe_call G_plain_layout (hr.mono (by decide)) rfl T.g_plain_layout T.k_plain_layout T.bd_plain_layout .nil pass0 (pa_cons (pv 3) pa_nil)))) (pa_cons (pv 1) (pa_cons (pv 2) pa_nil))))) T.cl_Machine T.m_Machine_finish G_Machine_finish (hr.mono (by decide)) T.bd_Machine_finish .nil pass0))), ?_⟩
    unfold tRet tMeth
    refine mk_mach T (σ := [some (.ref mo), some (.ref l), some (.int fu), none]) (s := 3) (vs := [3]) m hl rfl rfl rfl (fun v => ⟨rfl, rfl⟩) fun M τ H' L R s t2 => ?_
    obtain ⟨dm, cur, en, hM, _, _⟩ := id R.m.m
    exact ⟨M, dm, _, rfl, hM.1, mcF_no_finish _ _ _ _ _ _, τ, M, Ev', L, st0 Ev' fu, J, Φ, rfl, R, j0, js, fun n e v τ' H2 ee d G => q n e v H2 ee d fun b o x => G.s.fr b o (s b o x) (by rw [t2 b o x]; decide)⟩
end

/-! ### shapes of what is compared -/
def Sh (n : Nat) (d : PyData) : Prop := d.canLay0 = true ∧ d.depth ≤ n
theorem Sh.mono {n m : Nat} {d : PyData} (h : Sh n d) (l : n ≤ m) : Sh m d := ⟨h.1, Nat.le_trans h.2 l⟩
theorem sh_all {n : Nat} : ∀ {ds : List PyData}, (∀ d ∈ ds, Sh n d) → PyData.canLayAll0 ds = true ∧ PyData.depthAll ds ≤ n
  | [], _ => ⟨rfl, Nat.zero_le _⟩
  | d :: ds, h => by
    obtain ⟨h1, h2⟩ := sh_all (ds := ds) fun e he => h e (List.mem_cons_of_mem _ he)
    obtain ⟨g1, g2⟩ := h d (List.mem_cons_self ..)
    unfold PyData.canLayAll0 PyData.depthAll
    rw [g1, h1]
    exact ⟨rfl, Nat.max_le.mpr ⟨g2, h2⟩⟩
theorem sh_tup {n : Nat} {ds : List PyData} (h : ∀ d ∈ ds, Sh n d) : Sh (n + 1) (.tuple ds) := by
  obtain ⟨h1, h2⟩ := sh_all h
  refine ⟨by unfold PyData.canLay0; exact h1, ?_⟩
  unfold PyData.depth
  omega
theorem sh_int (i : Int) : Sh 0 (.int i) := ⟨by unfold PyData.canLay0; rfl, by unfold PyData.depth; exact Nat.le_refl _⟩
theorem sh_ints (l : List Int) : Sh 1 (.tuple (l.map .int)) := sh_tup fun d hd => by
  obtain ⟨i, _, rfl⟩ := List.mem_map.mp hd
  exact sh_int i
theorem sh_str {x : Str} (h : PyData.canLay0 (.str x) = true) : Sh 0 (.str x) := ⟨h, by unfold PyData.depth; exact Nat.le_refl _⟩
theorem Sh.shaped {n : Nat} {d : PyData} (h : Sh n d) (l : n ≤ 64) : SeqAt.shaped d = true := by
  unfold SeqAt.shaped
  rw [h.1, decide_eq_true (Nat.le_trans h.2 l)]
  rfl
theorem eqv_self {n : Nat} {d : PyData} (h : Sh n d) : PyData.eqv d d = true := SeqAt.eqv_refl _ h.1

/-! ### _law_alike -/
def okA : Nat → PyData → Prop
  | _, .int _ => True
  | _, .str s => PyData.canLay0 (.str s) = true
  | n + 1, .tuple ds => (∀ d ∈ ds, okA n d) ∧ ds.length ≤ 1000000
  | _, _ => False
def spAlike (K : PySem.W.Frag) (n : Nat) : Sp := fun vs H Q _ => ∃ (x y : V) (d : PyData), vs = [x, y] ∧ DT K H x d ∧ DT K H y d ∧ okA n d ∧ Q (.bl true) H
def spNever' : Sp := fun _ _ _ _ => False
section
variable {P : Program} {w : World} {K : PySem.W.Frag} {mg : Str → Option Value} {base : Heap} {a : Ad}
theorem ok_alike_aux (T : Txt w K mg a) (n k : Nat) (sp' : Sp) (G_law_alike : FnOk P w K mg base CX0 k a.f_law_alike a.d_law_alike ["answer", "due"] sp') (hG : ∀ m, n = m + 1 → ∀ vs H Q E, spAlike K m vs H Q E → sp' vs H Q E) :
    FnOk P w K mg base CX0 (k + 1) a.f_law_alike a.d_law_alike ["answer", "due"] (spAlike K n) := by
  refine T.F__law_alike.ok sc_law_alike (fun vs H Q E h => ?_) (fun cdv A outer s H vs Q E hr h => ?_)
  · obtain ⟨_, _, _, rfl, _⟩ := h; rfl
  · obtain ⟨x, y, d, rfl, hx, hy, ho, q⟩ := h
    refine ⟨_, (pss_cons (ps_if (pt_val (pe_callB call_isi (by rfl) T.b_isinstance (by decide +kernel) (pa_cons (pv 1) (pa_cons (pe_bltn (v := .ty "tuple") (by rfl) T.b_tuple (by decide +kernel) rfl) pa_nil)))) (pss_cons (ps_if (PW.pt (pw_or (pt_not (pt_val (pe_callB call_isi (by rfl) T.b_isinstance (by decide +kernel) (pa_cons (pv 0) (pa_cons (pe_bltn (v := .ty "tuple") (by rfl) T.b_tuple (by decide +kernel) rfl) pa_nil))))) (pw_or1 (pt_cmpR op_ne (pe_callB call_len_seq (by rfl) T.b_len (by decide +kernel) (pa_cons (pv 0) pa_nil)) (pe_callB call_len_seq (by rfl) T.b_len (by decide +kernel) (pa_cons (pv 1) pa_nil)) (nomark _))))) (pss_one (ps_ret pe_bl)) pss_nil)
      (pss_cons (ps_for PassesOwn.never rfl (pi_range1 rfl T.b_range (pa_cons (pe_callB call_len_seq (by rfl) T.b_len (by decide +kernel) (pa_cons (pv 1) pa_nil)) pa_nil)) (pg_name (i := 2) sc_law_alike.nd rfl (Or.inl rfl)) (pss_one (ps_if (pt_not (pt_val (pe_call G_law_alike hr rfl T.g__law_alike T.k__law_alike T.bd__law_alike .nil pass0 (pa_cons (pe_ix ix_tup (pv 0) (pv 2) (fun _ _ => rfl)) (pa_cons (pe_ix ix_tup (pv 1) (pv 2) (fun _ _ => rfl)) pa_nil))))) (pss_one (ps_ret pe_bl)) pss_nil)))
      (pss_one (ps_ret pe_bl)))) pss_nil)
      (pss_cons (ps_if (pt_val (pe_callB call_isi (by rfl) T.b_isinstance (by decide +kernel) (pa_cons (pv 1) (pa_cons (pe_bltn (v := .ty "str") (by rfl) T.b_str (by decide +kernel) rfl) pa_nil)))) (pss_one (ps_ret (pe_and (pe_callB call_isi (by rfl) T.b_isinstance (by decide +kernel) (pa_cons (pv 0) (pa_cons (pe_bltn (v := .ty "str") (by rfl) T.b_str (by decide +kernel) rfl) pa_nil))) (pe_one (pe_cmpR (op_eqD hr.units) (pv 0) (pv 1) (nomark _)))))) pss_nil)
      (pss_one (ps_ret (pe_and (pe_callB call_isi (by rfl) T.b_isinstance (by decide +kernel) (pa_cons (pv 0) (pa_cons (pe_bltn (v := .ty "int") (by rfl) T.b_int (by decide +kernel) rfl) pa_nil))) (pe_and (pe_not (pe_callB call_isi (by rfl) T.b_isinstance (by decide +kernel) (pa_cons (pv 0) (pa_cons (pe_bltn (v := .ty "bool") (by rfl) T.b_bool (by decide +kernel) rfl) pa_nil)))) (pe_one (pe_cmpR (op_eqD hr.units) (pv 0) (pv 1) (nomark _))))))))), ?_⟩
    cases d with
    | int i =>
      cases hx; cases hy
      refine ⟨_, rfl, _, _, _, _, _, rfl, .ty _, .base (.int _), kit_ty (by decide +kernel : kitB "int" "tuple" = some false), _, rfl, iteF ?_⟩
      refine ⟨_, rfl, _, _, _, _, _, rfl, .ty _, .base (.int _), kit_ty (by decide +kernel : kitB "int" "str" = some false), _, rfl, iteF ?_⟩
      refine ⟨_, rfl, _, _, _, _, _, rfl, .ty _, .base (.int _), kit_ty (by decide +kernel : kitB "int" "int" = some true), _, rfl, iteT ?_⟩
      refine ⟨_, rfl, _, _, _, _, _, rfl, .ty _, .base (.int _), kit_ty (by decide +kernel : kitB "int" "bool" = some false), _, rfl, _, rfl, iteT ?_⟩
      refine ⟨_, rfl, _, rfl, .int i, .int i, .int i, .int i, (sh_int i).shaped (by omega), (sh_int i).shaped (by omega), ?_⟩
      rw [eqv_self (sh_int i)]
      exact q
    | str z =>
      have hz : PyData.canLay0 (.str z) = true := by cases n <;> exact ho
      cases hx; cases hy
      refine ⟨_, rfl, _, _, _, _, _, rfl, .ty _, .base (.str _), kit_ty (by decide +kernel : kitB "str" "tuple" = some false), _, rfl, iteF ?_⟩
      refine ⟨_, rfl, _, _, _, _, _, rfl, .ty _, .base (.str _), kit_ty (by decide +kernel : kitB "str" "str" = some true), _, rfl, iteT ?_⟩
      refine ⟨_, rfl, _, _, _, _, _, rfl, .ty _, .base (.str _), kit_ty (by decide +kernel : kitB "str" "str" = some true), _, rfl, iteT ?_⟩
      refine ⟨_, rfl, _, rfl, .str z, .str z, .str z, .str z, (sh_str hz).shaped (by omega), (sh_str hz).shaped (by omega), ?_⟩
      rw [eqv_self (sh_str hz)]
      exact q
    | tuple ds =>
      cases n with
      | zero => exact ho.elim
      | succ m =>
        obtain ⟨ho, hz⟩ := ho
        have hsz : sizeLine = 16777216 := rfl
        obtain ⟨pa, xs, rfl, hxs, dx⟩ := hx.ts
        obtain ⟨pb, ys, rfl, hys, dy⟩ := hy.ts
        have lx := dx.len
        have ly := dy.len
        refine ⟨_, rfl, _, _, _, _, _, rfl, .ty _, tyx_tup hys, kit_ty (by decide +kernel : kitB "tuple" "tuple" = some true), _, rfl, iteT ?_⟩
        refine ⟨_, rfl, _, _, _, _, _, rfl, .ty _, tyx_tup hxs, kit_ty (by decide +kernel : kitB "tuple" "tuple" = some true), _, rfl, iteF ?_⟩
        refine ⟨_, rfl, _, _, rfl, .inr hxs, _, rfl, _, _, rfl, .inr hys, rfl, _, rfl, ?_⟩
        rw [show (!decide (V.int (xs.length : Int) = V.int (ys.length : Int))) = false by rw [lx, ly]; simp]
        refine iteF ?_
        refine ⟨_, rfl, _, _, rfl, .inr hys, _, rfl, by omega, by omega, ?_⟩
        refine for_range (lo := 0) (n := (ys.length : Int).toNat) (fun i σ H' => H' = H ∧ ∃ o2, σ = [some (.ref pa), some (.ref pb), o2]) ⟨rfl, _, rfl⟩ ?_ ?_
        · rintro i σ H' hi ⟨rfl, o2, rfl⟩
          have hi' : i < ds.length := by omega
          obtain ⟨v1, e1, d1⟩ := dx.get (i := i) (d := ds[i]) (by simp [hi'])
          obtain ⟨v2, e2, d2⟩ := dy.get (i := i) (d := ds[i]) (by simp [hi'])
          rw [show (0 : Int) + (i : Int) = (i : Int) from Int.zero_add _]
          refine ⟨_, rfl, _, rfl, _, _, _, _, rfl, rfl, hxs, atI_nat e1, _, rfl, _, rfl, _, _, _, _, rfl, rfl, hys, atI_nat e2, ?_⟩
          refine hG m rfl _ _ _ _ ⟨v1, v2, ds[i], rfl, d1, d2, ho _ (List.getElem_mem hi'), ?_⟩
          exact ⟨_, rfl, iteF ⟨rfl, _, rfl⟩⟩
        · rintro σ H' ⟨rfl, o2, rfl⟩
          exact q
    | _ => exact (by cases n <;> exact ho.elim)
theorem ok_alike (T : Txt w K mg a) : ∀ n, FnOk P w K mg base CX0 (n + 1) a.f_law_alike a.d_law_alike ["answer", "due"] (spAlike K n)
  | 0 => ok_alike_aux T 0 0 spNever' ⟨fun _ _ _ _ h => h.elim, fun _ _ _ _ _ _ _ _ _ _ _ _ _ h => h.elim⟩ fun _ h => nomatch h
  | n + 1 => ok_alike_aux T (n + 1) (n + 1) (spAlike K n) (ok_alike T n) fun m h vs H Q E q => by
    obtain rfl : n = m := Nat.succ.inj h
    exact q
end

/-! ### the shapes of the law -/
structure Shp where
  bf : Nat
  af : Nat
  rows : List (Int × Int × Int)
  regs : List (List Int)
  kd : Int
  nu : Int
  pl : Int
  od : List (List Int)
def Shp.e (s : Shp) (k : Nat) : Nat := s.bf + s.af + 3 + 3 * k
structure Shp.Ok (s : Shp) : Prop where
  b0 : 1 ≤ s.bf
  b1 : s.bf ≤ 4
  a1 : s.af ≤ 2
  l : s.regs.length = s.rows.length
  l5 : s.rows.length ≤ 5
  rg : ∀ (k : Nat) (q : List Int), s.regs[k]? = some q → ∃ x y : Int, q = [x, y, (s.e k : Int), 2 * (k : Int), 2 * (k : Int) + 1] ∧ y ≤ s.e k
  rw : ∀ r ∈ s.rows, (0 ≤ r.1 ∧ r.1 < 4) ∧ (0 ≤ r.2.1 ∧ r.2.1 < 5) ∧ (0 ≤ r.2.2 ∧ r.2.2 < 4)
  od : ∀ q ∈ s.od, q ∈ s.regs
  k0 : 0 ≤ s.kd ∧ s.kd < 6
  n : 0 ≤ s.nu ∧ s.nu < 5
  p : 0 ≤ s.pl ∧ s.pl < 4
def rgO (k : Int) : Op := ("reg", k)
def Shp.rai (s : Shp) (m : Nat) : In := if s.kd = 0 then .ca ((m : Int) + 1) 0 [] [] s.pl else if s.kd = 1 then .pu ("int", 55) else if s.kd = 2 then .bi 3 0 ("int", 1) ("int", 0) s.pl else .ra s.nu s.pl
def Shp.ro (s : Shp) (k : Nat) : Int × Int × Int := s.rows.getD k (0, 0, 0)
def Shp.thd (s : Shp) (k : Nat) : In := if (s.ro k).1 = 0 ∧ k + 1 < s.rows.length then .jm ((s.e k : Int) + 3) else if (s.ro k).1 < 2 then .re [] else if (s.ro k).1 = 2 then .ag (rgO (2 * (k : Int))) (rgO (2 * (k : Int) + 1)) else .ra (s.ro k).2.1 (s.ro k).2.2
def Shp.row (s : Shp) (k : Nat) : List In := [.pu (rgO (2 * (k : Int))), .pu (rgO (2 * (k : Int) + 1)), s.thd k]
def befI (m n : Nat) : List In := (List.range n).map fun (k : Nat) => In.pu ("int", 100 * (m : Int) + (k : Int))
def aftI (m n : Nat) : List In := (List.range n).map fun (k : Nat) => In.pu ("int", 100 * (m : Int) + 50 + (k : Int))
def Shp.hd (s : Shp) (m : Nat) : List In := (In.ti :: befI m s.bf) ++ (s.rai m :: (aftI m s.af ++ [In.re []]))
def Shp.rws (s : Shp) (n : Nat) : List In := (List.range n).flatMap s.row
def Shp.cd (s : Shp) (m : Nat) : List In := s.hd m ++ s.rws s.rows.length
def unU (m : Nat) (s : Shp) : UI := ⟨(m : Int) - 1, 0, 0, 12, 0, s.cd m, s.od⟩
theorem Shp.rws_succ (s : Shp) (n : Nat) : s.rws (n + 1) = s.rws n ++ s.row n := by
  unfold rws; rw [List.range_succ, List.flatMap_append]; simp
theorem Shp.rws_len (s : Shp) : ∀ n, (s.rws n).length = 3 * n
  | 0 => rfl
  | n + 1 => by rw [rws_succ, List.length_append, rws_len s n]; simp [row]; omega
theorem Shp.hd_len (s : Shp) (m : Nat) : (s.hd m).length = s.bf + s.af + 3 := by
  unfold hd befI aftI; simp; omega
theorem Shp.rws_at (s : Shp) : ∀ (n k j : Nat), k < n → j < 3 → (s.rws n)[3 * k + j]? = (s.row k)[j]?
  | 0, _, _, h, _ => absurd h (Nat.not_lt_zero _)
  | n + 1, k, j, h, hj => by
    rw [rws_succ]
    by_cases e : k < n
    · rw [List.getElem?_append_left (by rw [rws_len]; omega)]
      exact rws_at s n k j e hj
    · have e2 : k = n := by omega
      subst e2
      rw [List.getElem?_append_right (by rw [rws_len]; omega), rws_len]
      congr 1; omega
theorem Shp.cd_row (s : Shp) (m : Nat) {k j : Nat} (h : k < s.rows.length) (hj : j < 3) : (s.cd m)[s.e k + j]? = (s.row k)[j]? := by
  unfold cd
  rw [List.getElem?_append_right (by rw [hd_len]; unfold e; omega), hd_len, show s.e k + j - (s.bf + s.af + 3) = 3 * k + j by unfold e; omega]
  exact rws_at s _ _ _ h hj
theorem Shp.cd_ti (s : Shp) (m : Nat) : (s.cd m)[0]? = some .ti := rfl
theorem Shp.cd_bf (s : Shp) (m : Nat) {j : Nat} (h : j < s.bf) : (s.cd m)[1 + j]? = some (.pu ("int", 100 * (m : Int) + (j : Int))) := by
  unfold cd
  rw [List.getElem?_append_left (by rw [hd_len]; omega)]
  unfold hd
  rw [List.getElem?_append_left (by unfold befI; simp; omega), Nat.add_comm 1 j, List.getElem?_cons_succ]
  unfold befI
  rw [List.getElem?_map, List.getElem?_range h]; rfl
theorem Shp.cd_c (s : Shp) (m : Nat) : (s.cd m)[1 + s.bf]? = some (s.rai m) := by
  unfold cd
  rw [List.getElem?_append_left (by rw [hd_len]; omega)]
  unfold hd
  rw [List.getElem?_append_right (by unfold befI; simp; omega), show 1 + s.bf - (In.ti :: befI m s.bf).length = 0 by unfold befI; simp; omega]
  rfl
theorem Shp.cd_af (s : Shp) (m : Nat) {j : Nat} (h : j < s.af) : (s.cd m)[2 + s.bf + j]? = some (.pu ("int", 100 * (m : Int) + 50 + (j : Int))) := by
  unfold cd
  rw [List.getElem?_append_left (by rw [hd_len]; omega)]
  unfold hd
  rw [List.getElem?_append_right (by unfold befI; simp; omega), show 2 + s.bf + j - (In.ti :: befI m s.bf).length = j + 1 by unfold befI; simp; omega, List.getElem?_cons_succ, List.getElem?_append_left (by unfold aftI; simp; omega)]
  unfold aftI
  rw [List.getElem?_map, List.getElem?_range h]; rfl
theorem Shp.cd_re (s : Shp) (m : Nat) : (s.cd m)[2 + s.bf + s.af]? = some (.re []) := by
  unfold cd
  rw [List.getElem?_append_left (by rw [hd_len]; omega)]
  unfold hd
  rw [List.getElem?_append_right (by unfold befI; simp; omega), show 2 + s.bf + s.af - (In.ti :: befI m s.bf).length = s.af + 1 by unfold befI; simp; omega, List.getElem?_cons_succ, List.getElem?_append_right (by unfold aftI; simp), show s.af - (aftI m s.af).length = 0 by unfold aftI; simp]
  rfl
/-- the region that takes an exception at an index -/
def Shp.tk (s : Shp) (x : Int) : Option Nat := (s.od.find? (inR x)).map fun q => s.regs.idxOf q
theorem Shp.tk_none {s : Shp} {x : Int} (h : s.tk x = none) : s.od.find? (inR x) = none := by
  unfold tk at h
  cases e : s.od.find? (inR x) with
  | none => rfl
  | some q => rw [e] at h; cases h
theorem Shp.tk_some {s : Shp} (ok : s.Ok) {x : Int} {k : Nat} (h : s.tk x = some k) : ∃ q, s.od.find? (inR x) = some q ∧ k < s.rows.length ∧ q.getD 2 0 = (s.e k : Int) ∧ q.getD 3 0 = 2 * (k : Int) ∧ q.getD 4 0 = 2 * (k : Int) + 1 ∧ x < s.e k := by
  unfold tk at h
  cases e : s.od.find? (inR x) with
  | none => rw [e] at h; cases h
  | some q =>
    rw [e] at h
    have hk : s.regs.idxOf q = k := Option.some.inj h
    have m := ok.od q (List.mem_of_find?_eq_some e)
    have hl : s.regs.idxOf q < s.regs.length := List.idxOf_lt_length_of_mem m
    have hq : s.regs[s.regs.idxOf q]? = some q := by
      rw [List.getElem?_eq_getElem hl, List.getElem_idxOf hl]
    rw [hk] at hl hq
    obtain ⟨a, b, eq, hb⟩ := ok.rg _ q hq
    have hin := List.find?_some e
    refine ⟨q, rfl, by rw [← ok.l]; exact hl, ?_, ?_, ?_, ?_⟩
    · rw [eq]; rfl
    · rw [eq]; rfl
    · rw [eq]; rfl
    · rw [eq] at hin
      unfold inR at hin
      simp at hin
      omega
/-- what the rows put out -/
def rowsF (s : Shp) : Nat → Int × Int → Option Nat → Bool → List Int → List Int × Option (Int × Int)
  | 0, r, _, _, _ => ([], some r)
  | _ + 1, r, none, _, _ => ([], some r)
  | n + 1, r, some k, en, ws =>
    let ws1 := if en = true then (ws.set (2 * k) r.1).set (2 * k + 1) r.2 else ws
    let z := if (s.ro k).1 = 0 ∧ k + 1 < s.rows.length then rowsF s n r (some (k + 1)) false ws1 else if (s.ro k).1 < 2 then ([], none) else
      rowsF s n (if (s.ro k).1 = 3 then ((s.ro k).2.1, (s.ro k).2.2) else (ws1.getD (2 * k) 0, ws1.getD (2 * k + 1) 0)) (s.tk ((s.e k : Int) + 2)) true ws1
    (ws1.getD (2 * k) 0 :: ws1.getD (2 * k + 1) 0 :: z.1, z.2)
theorem rowsF_none (s : Shp) (n : Nat) (r : Int × Int) (en : Bool) (ws : List Int) : rowsF s n r none en ws = ([], some r) := by cases n <;> rfl
theorem rowsF_len (s : Shp) : ∀ (n : Nat) (r : Int × Int) (k : Option Nat) (en : Bool) (ws : List Int), (rowsF s n r k en ws).1.length ≤ 2 * n
  | 0, _, _, _, _ => Nat.zero_le _
  | _ + 1, _, none, _, _ => Nat.zero_le _
  | n + 1, r, some k, en, ws => by
    unfold rowsF
    dsimp only
    simp only [List.length_cons]
    split
    · have := rowsF_len s n r (some (k + 1)) false (if en = true then (ws.set (2 * k) r.1).set (2 * k + 1) r.2 else ws)
      omega
    · split
      · simp; omega
      · have := rowsF_len s n (if (s.ro k).1 = 3 then ((s.ro k).2.1, (s.ro k).2.2) else ((if en = true then (ws.set (2 * k) r.1).set (2 * k + 1) r.2 else ws).getD (2 * k) 0, (if en = true then (ws.set (2 * k) r.1).set (2 * k + 1) r.2 else ws).getD (2 * k + 1) 0)) (s.tk ((s.e k : Int) + 2)) true (if en = true then (ws.set (2 * k) r.1).set (2 * k + 1) r.2 else ws)
        omega
def z12 : List Int := List.replicate 12 0
def befN (m n : Nat) : List Int := (List.range n).map fun (k : Nat) => 100 * (m : Int) + (k : Int)
def aftN (m n : Nat) : List Int := (List.range n).map fun (k : Nat) => 100 * (m : Int) + 50 + (k : Int)
def Shp.own (s : Shp) : List Int × Option (Int × Int) := if s.kd = 1 then ([55], none) else if s.kd = 2 then ([], some (0, s.pl)) else ([], some (s.nu, s.pl))
/-- what the units put out -/
def walkF : Nat → List Shp → List Int × Option (Int × Int)
  | _, [] => ([], none)
  | m, s :: t =>
    let x := if s.kd = 0 then walkF (m + 1) t else s.own
    match x.2 with
    | some r => let z := rowsF s 30 r (s.tk (1 + (s.bf : Int))) true z12; (befN m s.bf ++ (x.1 ++ z.1), z.2)
    | none => (befN m s.bf ++ (x.1 ++ aftN m s.af), none)
theorem Shp.own_len (s : Shp) : s.own.1.length ≤ 1 := by
  unfold own
  split
  · decide
  · split <;> simp
theorem walkF_len : ∀ (t : List Shp) (m : Nat), (∀ s ∈ t, s.Ok) → (walkF m t).1.length ≤ 70 * t.length
  | [], _, _ => Nat.zero_le _
  | s :: t, m, ok => by
    have h1 := walkF_len t (m + 1) fun x h => ok x (List.mem_cons_of_mem _ h)
    have o := ok s (List.mem_cons_self ..)
    have hb := o.b1
    have ha := o.a1
    unfold walkF
    dsimp only
    have hx : (if s.kd = 0 then walkF (m + 1) t else s.own).1.length ≤ 70 * t.length + 1 := by
      split
      · omega
      · have := s.own_len; omega
    generalize (if s.kd = 0 then walkF (m + 1) t else s.own) = x at hx
    obtain ⟨x1, x2⟩ := x
    cases x2 with
    | none => simp [befN, aftN] at hx ⊢; omega
    | some r =>
      have := rowsF_len s 30 r (s.tk (1 + (s.bf : Int))) true z12
      simp [befN] at hx ⊢; omega

/-! ### paths -/
inductive Go (E : Ev) : Nat → Ms → Ms → Prop
  | nil {S : Ms} : Go E 0 S S
  | cons {n : Nat} {S S' : Ms} : S.en = none → StepOk E S → Go E n (stepS E S) S' → Go E (n + 1) S S'
def Gx (E : Ev) (S S' : Ms) : Prop := ∃ n, Go E n S S'
theorem Go.tr {E : Ev} {n m : Nat} {S S' S2 : Ms} (a : Go E n S S') (b : Go E m S' S2) : Gx E S S2 := by
  induction a with
  | nil => exact ⟨m, b⟩
  | cons h o _ ih => obtain ⟨k, g⟩ := ih b; exact ⟨k + 1, .cons h o g⟩
theorem Gx.refl {E : Ev} {S : Ms} : Gx E S S := ⟨0, .nil⟩
theorem Gx.tr {E : Ev} {S S' S2 : Ms} (a : Gx E S S') (b : Gx E S' S2) : Gx E S S2 := by
  obtain ⟨n, a⟩ := a; obtain ⟨m, b⟩ := b; exact a.tr b
theorem Go.len {E : Ev} {n m : Nat} {S S' : Ms} {e : En} (h : S'.en = some e) (a : Go E n S S') (b : Go E m S S') : n = m := by
  induction a generalizing m with
  | nil => cases b with
    | nil => rfl
    | cons h' _ _ => rw [h] at h'; cases h'
  | cons h1 _ _ ih => cases b with
    | nil => rw [h] at h1; cases h1
    | cons _ _ g => rw [ih h g]
theorem Go.run {E : Ev} {n : Nat} {S S' : Ms} (a : Go E n S S') : runS E n S = S' := by
  induction a with
  | nil => rfl
  | cons h _ _ ih => rw [runS_go h, ih]
open Classical in
/-- what is left of the path -/
noncomputable def PhX (E : Ev) (S' S : Ms) : Nat := if h : Gx E S S' then h.choose else 0
theorem PhX.eq {E : Ev} {n : Nat} {S S' : Ms} {e : En} (h : S'.en = some e) (a : Go E n S S') : PhX E S' S = n := by
  unfold PhX
  have g : Gx E S S' := ⟨n, a⟩
  rw [dif_pos g]
  exact Go.len h g.choose_spec a
/-- what run_module asks -/
theorem Gx.js {E : Ev} {S' : Ms} {e : En} (h : S'.en = some e) (S : Ms) (g : Gx E S S') (hS : S.en = none) : StepOk E S ∧ Gx E (stepS E S) S' ∧ PhX E S' (stepS E S) < PhX E S' S := by
  obtain ⟨n, g⟩ := g
  rw [PhX.eq h g]
  cases g with
  | nil => rw [h] at hS; cases hS
  | cons h1 o g => exact ⟨o, ⟨_, g⟩, by rw [PhX.eq h g]; omega⟩
theorem Gx.fin {E : Ev} {S S' : Ms} {e e' : En} {n : Nat} (g : Gx E S S') (h : S'.en = some e) (h2 : (runS E n S).en = some e') : runS E n S = S' := by
  obtain ⟨m, g⟩ := g
  have ad : ∀ (n m : Nat) (S : Ms), runS E (n + m) S = runS E m (runS E n S) := fun n => by
    induction n with
    | zero => intro m S; rw [Nat.zero_add]; rfl
    | succ n ih =>
      intro m S
      cases c : S.en with
      | some z => rw [runS_end c, runS_end c, runS_end c]
      | none => rw [show n + 1 + m = (n + m) + 1 by omega, runS_go c, runS_go c, ih]
  have a := ad n m S
  rw [runS_end h2] at a
  have b := ad m n S
  rw [g.run, runS_end h] at b
  rw [← a, Nat.add_comm, b]
/-! ### the module -/
structure EX (E : Ev) (shs : List Shp) : Prop where
  ok : ∀ s ∈ shs, s.Ok
  ul : E.us.length = shs.length
  u : ∀ (m : Nat) (s : Shp), shs[m]? = some s → E.u m = unU m s
  n5 : E.nms.length = 5
  p4 : E.pls.length = 4
theorem EX.ev {E : Ev} {shs : List Shp} (X : EX E shs) : EvOk E := fun k u e r m => by
  have hk : k < shs.length := by rw [← X.ul]; exact (List.getElem?_eq_some_iff.mp e).1
  have hs : shs[k]? = some shs[k] := List.getElem?_eq_getElem hk
  have hu := X.u k _ hs
  unfold Ev.u at hu
  rw [List.getD_eq_getElem?_getD, e] at hu
  have hu : u = unU k shs[k] := hu
  rw [hu] at m
  have ok := X.ok _ (List.getElem_mem hk)
  have m2 := ok.od r m
  obtain ⟨j, hj⟩ := List.getElem?_of_mem m2
  obtain ⟨x, y, rfl, _⟩ := ok.rg j r hj
  rfl
/-- the callers -/
structure RX (E : Ev) (r : List Ac) : Prop where
  u : ∀ c ∈ r, c.u < E.us.length
  i : ∀ c t, r = c :: t → 1 ≤ c.i ∧ ∃ o h ys p, (E.u c.u).xs[c.i - 1]? = some (.ca o h ys [] p)
  ra : ∀ n p : Int, 0 ≤ n → n < 5 → 0 ≤ p → p < 4 → RaOk E n p r
  lk : ∀ c ∈ r, ∀ j, c.lk = some j → j ≤ r.length
theorem ne_ri : ¬ ("reg" : Str) = "int" := by decide +kernel
def Gd (r : Int × Int) : Prop := (0 ≤ r.1 ∧ r.1 < 5) ∧ (0 ≤ r.2 ∧ r.2 < 4)
section
variable {E : Ev} {shs : List Shp} {m : Nat} {s : Shp} {r : List Ac}
theorem Gx.one {a : Ac} {ev : List (Bool × Int)} {fu : Int} {x : In} (X : EX E shs) (hu : ∀ c ∈ a :: r, c.u < E.us.length) (hx : (E.u a.u).xs[a.i]? = some x) (ao : ActOk E ⟨a.nx :: r, ev, 0, fu, none⟩ a.nx r x) {S' : Ms} (g : Gx E (actB E ⟨a.nx :: r, ev, 0, fu, none⟩ a.nx r x) S') : Gx E ⟨a :: r, ev, 0, fu, none⟩ S' := by
  obtain ⟨n, g⟩ := g
  refine ⟨n + 1, .cons rfl ⟨a, r, x, rfl, X.ev, hu, hx, ao⟩ ?_⟩
  have : stepS E ⟨a :: r, ev, 0, fu, none⟩ = actB E ⟨a.nx :: r, ev, 0, fu, none⟩ a.nx r x := by
    unfold stepS
    dsimp only
    rw [List.getD_eq_getElem?_getD, hx]; rfl
  rw [this]; exact g
theorem EX.lt (X : EX E shs) (hs : shs[m]? = some s) : m < E.us.length := by rw [X.ul]; exact (List.getElem?_eq_some_iff.mp hs).1
theorem EX.sok (X : EX E shs) (hs : shs[m]? = some s) : s.Ok := X.ok s (List.mem_of_getElem? hs)
theorem EX.xs (X : EX E shs) (hs : shs[m]? = some s) : (E.u m).xs = s.cd m := by rw [X.u m s hs]; rfl
theorem EX.reg (X : EX E shs) (hs : shs[m]? = some s) {i : Nat} {ws cs : List Int} {lk : Option Nat} : E.reg ⟨m, i, ws, cs, lk⟩ = s.od.find? (inR ((i : Int) - 1)) := by
  unfold Ev.reg
  rw [X.u m s hs]; rfl
theorem ra_ok (X : EX E shs) (R : RX E r) (hs : shs[m]? = some s) {i : Nat} {ws cs : List Int} {lk : Option Nat} (hw : ws.length = 12) {n p : Int} (g : Gd (n, p)) : RaOk E n p (⟨m, i, ws, cs, lk⟩ :: r) := by
  unfold RaOk
  rw [X.reg hs]
  have ok := X.sok hs
  cases e : s.od.find? (inR ((i : Int) - 1)) with
  | none => exact R.ra n p g.1.1 g.1.2 g.2.1 g.2.2
  | some q =>
    obtain ⟨j, hj⟩ := List.getElem?_of_mem (ok.od q (List.mem_of_find?_eq_some e))
    obtain ⟨x, y, rfl, _⟩ := ok.rg j _ hj
    have hl : j < s.regs.length := (List.getElem?_eq_some_iff.mp hj).1
    have := ok.l
    have := ok.l5
    dsimp only
    rw [hw]
    refine ⟨?_, ⟨?_, ?_⟩, ?_, ?_⟩
    · show (0 : Int) ≤ (s.e j : Int); omega
    · show (0 : Int) ≤ 2 * (j : Int); omega
    · show 2 * (j : Int) < ((12 : Nat) : Int); omega
    · show (0 : Int) ≤ 2 * (j : Int) + 1; omega
    · show 2 * (j : Int) + 1 < ((12 : Nat) : Int); omega
theorem RX.us (R : RX E r) (X : EX E shs) (hs : shs[m]? = some s) {i : Nat} {ws cs : List Int} {lk : Option Nat} : ∀ c ∈ (⟨m, i, ws, cs, lk⟩ : Ac) :: r, c.u < E.us.length := fun c h => by
  rcases List.mem_cons.mp h with rfl | h
  · exact X.lt hs
  · exact R.u c h
def puL (l : List Int) : List (Bool × Int) := l.map fun v => (true, v)
/-- a put of a number -/
theorem Gx.pus (X : EX E shs) (R : RX E r) (hs : shs[m]? = some s) {ws : List Int} {lk : Option Nat} {fu : Int} {f : Nat → Int} {S' : Ms} : ∀ (n i : Nat) (ev : List (Bool × Int)), (∀ j, j < n → (s.cd m)[i + j]? = some (.pu ("int", f j))) → ev.length + n ≤ 1000 →
    Gx E ⟨⟨m, i + n, ws, [], lk⟩ :: r, ev ++ puL ((List.range n).map f), 0, fu, none⟩ S' → Gx E ⟨⟨m, i, ws, [], lk⟩ :: r, ev, 0, fu, none⟩ S'
  | 0, i, ev, _, _, g => by simpa [puL] using g
  | n + 1, i, ev, h, hl, g => by
    refine Gx.pus X R hs n i ev (fun j hj => h j (by omega)) (by omega) ?_
    have hx : (E.u m).xs[i + n]? = some (.pu ("int", f n)) := by rw [X.xs hs]; exact h n (by omega)
    refine Gx.one X (R.us X hs) hx ⟨.inl rfl, ?_⟩ ?_
    · have : (ev ++ puL ((List.range n).map f)).length ≤ 1000 := by simp [puL]; omega
      exact Nat.lt_of_le_of_lt this (by decide)
    · rw [List.range_succ, List.map_append] at g
      have e : actB E ⟨(⟨m, i + n, ws, [], lk⟩ : Ac).nx :: r, ev ++ puL ((List.range n).map f), 0, fu, none⟩ (⟨m, i + n, ws, [], lk⟩ : Ac).nx r (.pu ("int", f n)) = ⟨⟨m, i + (n + 1), ws, [], lk⟩ :: r, ev ++ puL ((List.range n).map f ++ [f n]), 0, fu, none⟩ := by
        unfold actB puL Ac.nx Ac.val vl
        simp [Nat.add_assoc]
      rw [e]; exact g
/-- a put of a register -/
theorem Gx.pur (X : EX E shs) (R : RX E r) (hs : shs[m]? = some s) {i : Nat} {ws : List Int} {lk : Option Nat} {fu : Int} {ev : List (Bool × Int)} {k : Nat} {S' : Ms} (hx : (s.cd m)[i]? = some (.pu (rgO (k : Int)))) (hk : k < ws.length) (hl : ev.length ≤ 1000)
    (g : Gx E ⟨⟨m, i + 1, ws, [], lk⟩ :: r, ev ++ [(true, ws.getD k 0)], 0, fu, none⟩ S') : Gx E ⟨⟨m, i, ws, [], lk⟩ :: r, ev, 0, fu, none⟩ S' := by
  refine Gx.one (x := .pu (rgO (k : Int))) X (R.us X hs) (by rw [X.xs hs]; exact hx) ⟨.inr ⟨rfl, ?_, ?_⟩, Nat.lt_of_le_of_lt hl (by decide)⟩ ?_
  · show (0 : Int) ≤ (k : Int); omega
  · show (k : Int) < (ws.length : Int); omega
  · have e : actB E ⟨(⟨m, i, ws, [], lk⟩ : Ac).nx :: r, ev, 0, fu, none⟩ (⟨m, i, ws, [], lk⟩ : Ac).nx r (.pu (rgO (k : Int))) = ⟨⟨m, i + 1, ws, [], lk⟩ :: r, ev ++ [(true, ws.getD k 0)], 0, fu, none⟩ := by
      have h2 : vl ws (rgO (k : Int)) = ws.getD k 0 := by
        unfold vl rgO
        rw [if_neg (show ¬ (("reg" : Str), (k : Int)).1 = ("int" : Str) from ne_ri)]
        rfl
      show (⟨_, ev ++ [(true, vl ws (rgO (k : Int)))], 0, fu, none⟩ : Ms) = _
      rw [h2]; rfl
    rw [e]; exact g
end

/-! ### a unit's run -/
/-- how a unit ends -/
def FinX (E : Ev) (r : List Ac) (ev : List (Bool × Int)) : Option (Int × Int) → Ms → Prop
  | none, S' => ∃ fu', (r = [] → ∃ st0, S' = ⟨st0, ev, 0, fu', some .norm⟩) ∧ (r ≠ [] → S' = ⟨r, ev, 0, fu', none⟩)
  | some q, S' => ∃ fu' st0, Gd q ∧ S' = (match unw E q.1 q.2 r with | some st => ⟨st, ev, 0, fu', none⟩ | none => ⟨st0, ev, 0, fu', some (.rais q.1 q.2)⟩)
def WG (ws : List Int) : Prop := ws.length = 12 ∧ ∀ j, Gd (ws.getD (2 * j) 0, ws.getD (2 * j + 1) 0)
theorem WG.z : WG z12 := ⟨rfl, fun j => by
  have h : ∀ j, z12.getD j 0 = 0 := fun j => by
    unfold z12
    rw [List.getD_eq_getElem?_getD, List.getElem?_replicate]
    split <;> rfl
  unfold Gd
  dsimp only
  rw [h, h]; decide⟩
theorem WG.set {ws : List Int} (h : WG ws) {k : Nat} {q : Int × Int} (g : Gd q) : WG ((ws.set (2 * k) q.1).set (2 * k + 1) q.2) := by
  refine ⟨by simp [h.1], fun j => ?_⟩
  have hj := h.2 j
  unfold Gd at g hj ⊢
  dsimp only at g hj ⊢
  rw [List.getD_eq_getElem?_getD, List.getD_eq_getElem?_getD] at hj ⊢
  rw [List.getElem?_set_ne (show 2 * k + 1 ≠ 2 * j by omega)]
  by_cases e : k = j
  · subst e
    constructor
    · rw [List.getElem?_set, if_pos rfl]
      split
      · exact g.1
      · exact ⟨by decide, by decide⟩
    · rw [List.getElem?_set, if_pos rfl]
      split
      · exact g.2
      · exact ⟨by decide, by decide⟩
  · rw [List.getElem?_set_ne (show 2 * k ≠ 2 * j by omega), List.getElem?_set_ne (show 2 * k + 1 ≠ 2 * j + 1 by omega), List.getElem?_set_ne (show 2 * k ≠ 2 * j + 1 by omega)]
    exact hj
section
variable {E : Ev} {shs : List Shp} {m : Nat} {s : Shp} {r : List Ac}
theorem Shp.ro_ok (ok : s.Ok) {k : Nat} (h : k < s.rows.length) : (0 ≤ (s.ro k).1 ∧ (s.ro k).1 < 4) ∧ Gd ((s.ro k).2.1, (s.ro k).2.2) := by
  have := ok.rw (s.ro k) (by unfold ro; rw [List.getD_eq_getElem?_getD, List.getElem?_eq_getElem h]; exact List.getElem_mem h)
  exact ⟨this.1, this.2.1, this.2.2⟩
theorem unw_cons {a : Ac} {n p : Int} : unw E n p (a :: r) = match E.reg a with | some q => some (a.enter q n p :: r) | none => unw E n p r := rfl
/-- an exception in a unit -/
theorem rai_none (X : EX E shs) (hs : shs[m]? = some s) {i : Nat} {ws cs : List Int} {lk : Option Nat} {n p : Int} (h : s.tk ((i : Int) - 1) = none) : unw E n p (⟨m, i, ws, cs, lk⟩ :: r) = unw E n p r := by
  rw [unw_cons, X.reg hs, Shp.tk_none h]
theorem rai_some (X : EX E shs) (hs : shs[m]? = some s) {i : Nat} {ws cs : List Int} {lk : Option Nat} {n p : Int} {k : Nat} (h : s.tk ((i : Int) - 1) = some k) : k < s.rows.length ∧ (i : Int) - 1 < s.e k ∧ unw E n p (⟨m, i, ws, cs, lk⟩ :: r) = some (⟨m, s.e k, (ws.set (2 * k) n).set (2 * k + 1) p, cs, lk⟩ :: r) := by
  obtain ⟨q, hq, hk, q2, q3, q4, hlt⟩ := Shp.tk_some (X.sok hs) h
  refine ⟨hk, hlt, ?_⟩
  rw [unw_cons, X.reg hs, hq]
  dsimp only
  unfold Ac.enter Ac.go Ac.wr
  dsimp only
  rw [q2, q3, q4, show ((s.e k : Int)).toNat = s.e k from rfl, show (2 * (k : Int)).toNat = 2 * k by omega, show (2 * (k : Int) + 1).toNat = 2 * k + 1 by omega]
/-- a return -/
theorem ret_run (X : EX E shs) (R : RX E r) (hs : shs[m]? = some s) {i : Nat} {W : List Int} {lk : Option Nat} {fu : Int} {ev : List (Bool × Int)} (hx : (E.u m).xs[i]? = some (.re [])) : ∃ S', Gx E ⟨⟨m, i, W, [], lk⟩ :: r, ev, 0, fu, none⟩ S' ∧ FinX E r (ev ++ puL []) none S' := by
  rw [show ev ++ puL [] = ev by simp [puL]]
  cases er : r with
  | nil =>
    subst er
    exact ⟨_, Gx.one X (R.us X hs) hx ⟨fun _ h => (List.not_mem_nil h).elim, by decide, trivial⟩ .refl, fu, fun _ => ⟨_, rfl⟩, fun h => absurd rfl h⟩
  | cons c t =>
    obtain ⟨ci, o, h, ys, p, hc⟩ := R.i c t er
    have cu := R.u c (by rw [er]; exact List.mem_cons_self ..)
    refine ⟨⟨c :: t, ev, 0, fu, none⟩, ?_, fu, (fun h => (by cases h)), fun _ => rfl⟩
    rw [← er]
    refine Gx.one X (R.us X hs) hx ⟨fun _ h => (List.not_mem_nil h).elim, by show 0 ≤ 100; decide, ?_⟩ ?_
    · rw [er]
      exact ⟨cu, ci, o, h, ys, [], p, hc, rfl, fun _ h => (List.not_mem_nil h).elim⟩
    · have e : actB E ⟨(⟨m, i, W, [], lk⟩ : Ac).nx :: r, ev, 0, fu, none⟩ (⟨m, i, W, [], lk⟩ : Ac).nx r (.re []) = ⟨r, ev, 0, fu, none⟩ := by
        rw [er]
        unfold actB
        dsimp only
        rw [List.getD_eq_getElem?_getD, hc]; rfl
      rw [e]; exact .refl
def RowsP (E : Ev) (m : Nat) (s : Shp) (r : List Ac) (lk : Option Nat) (fu : Int) (n : Nat) : Prop := ∀ (k : Nat) (rr : Int × Int) (en : Bool) (ws : List Int) (ev : List (Bool × Int)), WG (if en = true then (ws.set (2 * k) rr.1).set (2 * k + 1) rr.2 else ws) → k < s.rows.length → 5 ≤ k + n + 1 → ev.length + 2 * (n + 1) ≤ 1000 →
    ∃ S', Gx E ⟨⟨m, s.e k, if en = true then (ws.set (2 * k) rr.1).set (2 * k + 1) rr.2 else ws, [], lk⟩ :: r, ev, 0, fu, none⟩ S' ∧ FinX E r (ev ++ puL (rowsF s (n + 1) rr (some k) en ws).1) (rowsF s (n + 1) rr (some k) en ws).2 S'
theorem rowsF_some (n k : Nat) (rr : Int × Int) (en : Bool) (ws : List Int) : rowsF s (n + 1) rr (some k) en ws =
    ((if en = true then (ws.set (2 * k) rr.1).set (2 * k + 1) rr.2 else ws).getD (2 * k) 0 :: (if en = true then (ws.set (2 * k) rr.1).set (2 * k + 1) rr.2 else ws).getD (2 * k + 1) 0 :: (if (s.ro k).1 = 0 ∧ k + 1 < s.rows.length then rowsF s n rr (some (k + 1)) false (if en = true then (ws.set (2 * k) rr.1).set (2 * k + 1) rr.2 else ws) else if (s.ro k).1 < 2 then ([], none) else
      rowsF s n (if (s.ro k).1 = 3 then ((s.ro k).2.1, (s.ro k).2.2) else ((if en = true then (ws.set (2 * k) rr.1).set (2 * k + 1) rr.2 else ws).getD (2 * k) 0, (if en = true then (ws.set (2 * k) rr.1).set (2 * k + 1) rr.2 else ws).getD (2 * k + 1) 0)) (s.tk ((s.e k : Int) + 2)) true (if en = true then (ws.set (2 * k) rr.1).set (2 * k + 1) rr.2 else ws)).1,
     (if (s.ro k).1 = 0 ∧ k + 1 < s.rows.length then rowsF s n rr (some (k + 1)) false (if en = true then (ws.set (2 * k) rr.1).set (2 * k + 1) rr.2 else ws) else if (s.ro k).1 < 2 then ([], none) else
      rowsF s n (if (s.ro k).1 = 3 then ((s.ro k).2.1, (s.ro k).2.2) else ((if en = true then (ws.set (2 * k) rr.1).set (2 * k + 1) rr.2 else ws).getD (2 * k) 0, (if en = true then (ws.set (2 * k) rr.1).set (2 * k + 1) rr.2 else ws).getD (2 * k + 1) 0)) (s.tk ((s.e k : Int) + 2)) true (if en = true then (ws.set (2 * k) rr.1).set (2 * k + 1) rr.2 else ws)).2) := rfl
/-- after an exception in a row -/
theorem rai_row (X : EX E shs) (R : RX E r) (hs : shs[m]? = some s) {lk : Option Nat} {fu : Int} {n k : Nat} {W : List Int} {ev : List (Bool × Int)} {q : Int × Int} (IH : ∀ n', n = n' + 1 → RowsP E m s r lk fu n') (hW : WG W) (hn : 5 ≤ k + n + 1) (hl : ev.length + 2 * n ≤ 1000) (g : Gd q) {x : In} (hx : (s.cd m)[s.e k + 2]? = some x)
    (ea : actB E ⟨⟨m, s.e k + 3, W, [], lk⟩ :: r, ev, 0, fu, none⟩ ⟨m, s.e k + 3, W, [], lk⟩ r x = raiseS E ⟨⟨m, s.e k + 3, W, [], lk⟩ :: r, ev, 0, fu, none⟩ q.1 q.2) (ao : ActOk E ⟨⟨m, s.e k + 3, W, [], lk⟩ :: r, ev, 0, fu, none⟩ ⟨m, s.e k + 3, W, [], lk⟩ r x) :
    ∃ S', Gx E ⟨⟨m, s.e k + 2, W, [], lk⟩ :: r, ev, 0, fu, none⟩ S' ∧ FinX E r (ev ++ puL (rowsF s n q (s.tk ((s.e k : Int) + 2)) true W).1) (rowsF s n q (s.tk ((s.e k : Int) + 2)) true W).2 S' := by
  have hx' : (E.u m).xs[s.e k + 2]? = some x := by rw [X.xs hs]; exact hx
  suffices h : ∃ S', Gx E (raiseS E ⟨⟨m, s.e k + 3, W, [], lk⟩ :: r, ev, 0, fu, none⟩ q.1 q.2) S' ∧ FinX E r (ev ++ puL (rowsF s n q (s.tk ((s.e k : Int) + 2)) true W).1) (rowsF s n q (s.tk ((s.e k : Int) + 2)) true W).2 S' by
    obtain ⟨S', g1, f⟩ := h
    exact ⟨S', Gx.one (x := x) X (R.us X hs) hx' ao (ea ▸ g1), f⟩
  have ei : ((s.e k + 3 : Nat) : Int) - 1 = (s.e k : Int) + 2 := by omega
  unfold raiseS
  dsimp only
  cases et : s.tk ((s.e k : Int) + 2) with
  | none =>
    rw [rowsF_none]
    refine ⟨_, .refl, fu, (⟨m, s.e k + 3, W, [], lk⟩ : Ac) :: r, g, ?_⟩
    rw [rai_none X hs (by rw [ei]; exact et)]
    simp only [puL, List.map_nil, List.append_nil]
    all_goals (cases unw E q.1 q.2 r <;> rfl)
  | some k2 =>
    obtain ⟨h2, h3, h4⟩ := rai_some (E := E) (r := r) (ws := W) (cs := []) (lk := lk) (n := q.1) (p := q.2) X hs (i := s.e k + 3) (by rw [ei]; exact et)
    rw [h4]
    dsimp only
    have ok := X.sok hs
    have := ok.l5
    have hkk : k < k2 := by unfold Shp.e at h3; omega
    obtain ⟨n', rfl⟩ : ∃ n', n = n' + 1 := ⟨n - 1, by omega⟩
    exact IH n' rfl k2 q true W ev (hW.set g) h2 (by omega) (by omega)
theorem rows_step (X : EX E shs) (R : RX E r) (hs : shs[m]? = some s) {lk : Option Nat} {fu : Int} (n : Nat) (IH : ∀ n', n = n' + 1 → RowsP E m s r lk fu n') : RowsP E m s r lk fu n := by
  intro k rr en ws ev hW hk hn hl
  have ok := X.sok hs
  have l5 := ok.l5
  rw [rowsF_some]
  generalize (if en = true then (ws.set (2 * k) rr.1).set (2 * k + 1) rr.2 else ws) = W at hW
  generalize ez : (if (s.ro k).1 = 0 ∧ k + 1 < s.rows.length then rowsF s n rr (some (k + 1)) false W else if (s.ro k).1 < 2 then ([], none) else rowsF s n (if (s.ro k).1 = 3 then ((s.ro k).2.1, (s.ro k).2.2) else (W.getD (2 * k) 0, W.getD (2 * k + 1) 0)) (s.tk ((s.e k : Int) + 2)) true W) = z
  have c0 : (s.cd m)[s.e k + 0]? = some (.pu (rgO ((2 * k : Nat) : Int))) := by rw [Shp.cd_row s m hk (by decide)]; unfold Shp.row; rw [show ((2 * k : Nat) : Int) = 2 * (k : Int) by omega]; rfl
  have c1 : (s.cd m)[s.e k + 1]? = some (.pu (rgO ((2 * k + 1 : Nat) : Int))) := by rw [Shp.cd_row s m hk (by decide)]; unfold Shp.row; rw [show ((2 * k + 1 : Nat) : Int) = 2 * (k : Int) + 1 by omega]; rfl
  have c2 : (s.cd m)[s.e k + 2]? = some (s.thd k) := by rw [Shp.cd_row s m hk (by decide)]; rfl
  suffices h : ∃ S', Gx E ⟨⟨m, s.e k + 2, W, [], lk⟩ :: r, (ev ++ [(true, W.getD (2 * k) 0)]) ++ [(true, W.getD (2 * k + 1) 0)], 0, fu, none⟩ S' ∧ FinX E r (((ev ++ [(true, W.getD (2 * k) 0)]) ++ [(true, W.getD (2 * k + 1) 0)]) ++ puL z.1) z.2 S' by
    obtain ⟨S', g1, f⟩ := h
    refine ⟨S', Gx.pur X R hs c0 (by rw [hW.1]; omega) (by omega) (Gx.pur X R hs c1 (by rw [hW.1]; omega) (by simp; omega) g1), ?_⟩
    simpa [puL] using f
  have hl2 : ((ev ++ [(true, W.getD (2 * k) 0)]) ++ [(true, W.getD (2 * k + 1) 0)]).length + 2 * n ≤ 1000 := by simp; omega
  generalize ((ev ++ [(true, W.getD (2 * k) 0)]) ++ [(true, W.getD (2 * k + 1) 0)]) = ev2 at hl2
  have hx : ∀ x, s.thd k = x → (E.u m).xs[s.e k + 2]? = some x := fun x e => by rw [X.xs hs, c2, e]
  obtain ⟨⟨r0, r4⟩, rg⟩ := Shp.ro_ok ok hk
  by_cases h1 : (s.ro k).1 = 0 ∧ k + 1 < s.rows.length
  · rw [if_pos h1] at ez
    subst ez
    have et : s.thd k = .jm ((s.e k : Int) + 3) := by unfold Shp.thd; rw [if_pos h1]
    obtain ⟨n', rfl⟩ : ∃ n', n = n' + 1 := ⟨n - 1, by omega⟩
    obtain ⟨S', g1, f⟩ := IH n' rfl (k + 1) rr false W ev2 hW h1.2 (by omega) (by omega)
    refine ⟨S', Gx.one X (R.us X hs) (hx _ et) (show (0 : Int) ≤ (s.e k : Int) + 3 by omega) ?_, f⟩
    have e : actB E ⟨(⟨m, s.e k + 2, W, [], lk⟩ : Ac).nx :: r, ev2, 0, fu, none⟩ (⟨m, s.e k + 2, W, [], lk⟩ : Ac).nx r (.jm ((s.e k : Int) + 3)) = ⟨⟨m, s.e (k + 1), W, [], lk⟩ :: r, ev2, 0, fu, none⟩ := by
      show (⟨(⟨m, ((s.e k : Int) + 3).toNat, W, [], lk⟩ : Ac) :: r, ev2, 0, fu, none⟩ : Ms) = _
      rw [show ((s.e k : Int) + 3).toNat = s.e (k + 1) by unfold Shp.e; omega]
    rw [e]; exact g1
  rw [if_neg h1] at ez
  by_cases h2 : (s.ro k).1 < 2
  · rw [if_pos h2] at ez
    subst ez
    have et : s.thd k = .re [] := by unfold Shp.thd; rw [if_neg h1, if_pos h2]
    exact ret_run X R hs (hx _ et)
  rw [if_neg h2] at ez
  subst ez
  by_cases h3 : (s.ro k).1 = 3
  · rw [if_pos h3]
    have et : s.thd k = .ra (s.ro k).2.1 (s.ro k).2.2 := by unfold Shp.thd; rw [if_neg h1, if_neg h2, if_neg (by omega)]
    exact rai_row (x := .ra (s.ro k).2.1 (s.ro k).2.2) X R hs IH hW hn hl2 rg (by rw [c2, et]) rfl (ra_ok X R hs hW.1 rg)
  · rw [if_neg h3]
    have et : s.thd k = .ag (rgO (2 * (k : Int))) (rgO (2 * (k : Int) + 1)) := by unfold Shp.thd; rw [if_neg h1, if_neg h2, if_pos (by omega)]
    have v0 : (⟨m, s.e k + 3, W, [], lk⟩ : Ac).val (rgO (2 * (k : Int))) = W.getD (2 * k) 0 := by
      unfold Ac.val vl rgO
      rw [if_neg (show ¬ (("reg" : Str), 2 * (k : Int)).1 = ("int" : Str) from ne_ri)]
      show W.getD (2 * (k : Int)).toNat 0 = _
      rw [show (2 * (k : Int)).toNat = 2 * k by omega]
    have v1 : (⟨m, s.e k + 3, W, [], lk⟩ : Ac).val (rgO (2 * (k : Int) + 1)) = W.getD (2 * k + 1) 0 := by
      unfold Ac.val vl rgO
      rw [if_neg (show ¬ (("reg" : Str), 2 * (k : Int) + 1).1 = ("int" : Str) from ne_ri)]
      show W.getD (2 * (k : Int) + 1).toNat 0 = _
      rw [show (2 * (k : Int) + 1).toNat = 2 * k + 1 by omega]
    have gq := hW.2 k
    have n5 := X.n5
    have p4 := X.p4
    refine rai_row (x := .ag (rgO (2 * (k : Int))) (rgO (2 * (k : Int) + 1))) X R hs IH hW hn hl2 gq (by rw [c2, et]) ?_ ⟨.inr ⟨rfl, ?_, ?_⟩, .inr ⟨rfl, ?_, ?_⟩, fun _ => ?_⟩
    · unfold actB
      dsimp only
      rw [v0, v1, if_pos ⟨⟨gq.1.1, by rw [n5]; exact gq.1.2⟩, gq.2.1, by rw [p4]; exact gq.2.2⟩]
    · show (0 : Int) ≤ 2 * (k : Int); omega
    · show 2 * (k : Int) < (W.length : Int); rw [hW.1]; omega
    · show (0 : Int) ≤ 2 * (k : Int) + 1; omega
    · show 2 * (k : Int) + 1 < (W.length : Int); rw [hW.1]; omega
    · rw [v0, v1]
      exact ra_ok X R hs hW.1 gq
theorem rows_run (X : EX E shs) (R : RX E r) (hs : shs[m]? = some s) {lk : Option Nat} {fu : Int} : ∀ (n : Nat), RowsP E m s r lk fu n
  | 0 => rows_step X R hs 0 fun n' e => by omega
  | n + 1 => rows_step X R hs (n + 1) fun n' e => by
    obtain rfl : n = n' := by omega
    exact rows_run X R hs n
end

/-! ### the chain of units -/
section
variable {E : Ev} {shs : List Shp} {m : Nat} {s : Shp} {r : List Ac}
theorem puL_app (a b : List Int) : puL (a ++ b) = puL a ++ puL b := by simp [puL]
theorem after_run (X : EX E shs) (R : RX E r) (hs : shs[m]? = some s) {W : List Int} {lk : Option Nat} {fu : Int} {ev : List (Bool × Int)} (hl : ev.length + 2 ≤ 1000) : ∃ S', Gx E ⟨⟨m, 2 + s.bf, W, [], lk⟩ :: r, ev, 0, fu, none⟩ S' ∧ FinX E r (ev ++ puL (aftN m s.af)) none S' := by
  have a1 := (X.sok hs).a1
  obtain ⟨S', g, f⟩ := ret_run (E := E) (lk := lk) (W := W) (fu := fu) (ev := ev ++ puL (aftN m s.af)) X R hs (i := 2 + s.bf + s.af) (by rw [X.xs hs]; exact Shp.cd_re s m)
  refine ⟨S', Gx.pus X R hs (f := fun k => 100 * (m : Int) + 50 + (k : Int)) s.af (2 + s.bf) ev (fun j hj => Shp.cd_af s m hj) (by omega) g, ?_⟩
  simpa [puL] using f
theorem raise_run (X : EX E shs) (R : RX E r) (hs : shs[m]? = some s) {lk : Option Nat} {fu : Int} {ev : List (Bool × Int)} {q : Int × Int} {st0 : List Ac} {S0 : Ms} (g : Gd q) (hl : ev.length + 60 ≤ 1000)
    (e : S0 = (match unw E q.1 q.2 (⟨m, 2 + s.bf, z12, [], lk⟩ :: r) with | some st => ⟨st, ev, 0, fu, none⟩ | none => ⟨st0, ev, 0, fu, some (.rais q.1 q.2)⟩)) :
    ∃ S', Gx E S0 S' ∧ FinX E r (ev ++ puL (rowsF s 30 q (s.tk (1 + (s.bf : Int))) true z12).1) (rowsF s 30 q (s.tk (1 + (s.bf : Int))) true z12).2 S' := by
  have ei : ((2 + s.bf : Nat) : Int) - 1 = 1 + (s.bf : Int) := by omega
  cases et : s.tk (1 + (s.bf : Int)) with
  | none =>
    rw [rowsF_none]
    refine ⟨S0, .refl, fu, st0, g, ?_⟩
    rw [rai_none X hs (by rw [ei]; exact et)] at e
    rw [show ev ++ puL ([] : List Int) = ev by simp [puL]]
    cases hu : unw E q.1 q.2 r with
    | none => rw [hu] at e; exact e
    | some st => rw [hu] at e; exact e
  | some k =>
    obtain ⟨h2, h3, h4⟩ := rai_some (E := E) (r := r) (ws := z12) (cs := []) (lk := lk) (n := q.1) (p := q.2) X hs (i := 2 + s.bf) (by rw [ei]; exact et)
    rw [h4] at e
    dsimp only at e
    subst e
    exact rows_run X R hs 29 k q true z12 ev (WG.z.set g) h2 (by omega) (by omega)
def UnitP (E : Ev) (shs t : List Shp) : Prop := ∀ (s : Shp) (m : Nat) (r : List Ac) (ev : List (Bool × Int)) (fu : Int) (lk : Option Nat), shs.drop m = s :: t → (∀ j s, shs[j]? = some s → s.kd = 0 → j + 1 < shs.length) → RX E r → (∀ j, lk = some j → j ≤ r.length) → (t.length : Int) + 1 ≤ fu → r.length + t.length < 9 → ev.length + 70 * (t.length + 1) ≤ 900 →
    ∃ S', Gx E ⟨⟨m, 0, z12, [], lk⟩ :: r, ev, 0, fu, none⟩ S' ∧ FinX E r (ev ++ puL (walkF m (s :: t)).1) (walkF m (s :: t)).2 S'
theorem unit_step (X : EX E shs) (t : List Shp) (IH : ∀ s1 t1, t = s1 :: t1 → UnitP E shs t1) : UnitP E shs t := by
  intro s m r ev fu lk hd kd R hk hf hr hl
  have hs : shs[m]? = some s := by
    have := congrArg (fun l => l[0]?) hd
    simpa using this
  have hd2 : shs.drop (m + 1) = t := by
    have := congrArg List.tail hd
    simpa using this
  have ok := X.sok hs
  have b1 := ok.b1
  have hokt : ∀ x ∈ t, x.Ok := fun x hx => X.ok x (List.mem_of_mem_drop (by rw [hd2]; exact hx))
  have xs := X.xs hs
  -- the tick
  suffices h : ∃ S', Gx E ⟨⟨m, 1, z12, [], lk⟩ :: r, ev, 0, fu - 1, none⟩ S' ∧ FinX E r (ev ++ puL (walkF m (s :: t)).1) (walkF m (s :: t)).2 S' by
    obtain ⟨S', g, f⟩ := h
    refine ⟨S', Gx.one (x := .ti) X (R.us X hs) (by rw [xs]; exact Shp.cd_ti s m) (show 0 ≤ fu by omega) ?_, f⟩
    have e : actB E ⟨(⟨m, 0, z12, [], lk⟩ : Ac).nx :: r, ev, 0, fu, none⟩ (⟨m, 0, z12, [], lk⟩ : Ac).nx r .ti = ⟨⟨m, 1, z12, [], lk⟩ :: r, ev, 0, fu - 1, none⟩ := by
      show (if fu = 0 then _ else _) = _
      rw [if_neg (by omega)]; rfl
    rw [e]; exact g
  -- the puts before
  generalize ev1 : ev ++ puL (befN m s.bf) = eb
  have hlb : eb.length = ev.length + s.bf := by rw [← ev1]; simp [puL, befN]
  suffices h : ∃ S', Gx E ⟨⟨m, 1 + s.bf, z12, [], lk⟩ :: r, eb, 0, fu - 1, none⟩ S' ∧ FinX E r (eb ++ puL (match (if s.kd = 0 then walkF (m + 1) t else s.own) with | (e, some q) => e ++ (rowsF s 30 q (s.tk (1 + (s.bf : Int))) true z12).1 | (e, none) => e ++ aftN m s.af)) (match (if s.kd = 0 then walkF (m + 1) t else s.own) with | (_, some q) => (rowsF s 30 q (s.tk (1 + (s.bf : Int))) true z12).2 | (_, none) => none) S' by
    obtain ⟨S', g, f⟩ := h
    refine ⟨S', Gx.pus X R hs (f := fun k => 100 * (m : Int) + (k : Int)) s.bf 1 ev (fun j hj => Shp.cd_bf s m hj) (by omega) (ev1 ▸ g), ?_⟩
    rw [← ev1] at f
    unfold walkF
    dsimp only
    generalize (if s.kd = 0 then walkF (m + 1) t else s.own) = x at f ⊢
    obtain ⟨x1, _ | q⟩ := x
    · dsimp only at f ⊢
      rw [puL_app, ← List.append_assoc]; exact f
    · dsimp only at f ⊢
      rw [puL_app, ← List.append_assoc]; exact f
  by_cases h0 : s.kd = 0
  · rw [if_pos h0]
    have hlt := kd m s hs h0
    obtain ⟨s1, t1, et⟩ : ∃ s1 t1, t = s1 :: t1 := by
      cases t with
      | nil =>
        have := congrArg List.length hd2
        simp at this; omega
      | cons a b => exact ⟨a, b, rfl⟩
    have hs1 : shs[m + 1]? = some s1 := by
      have := congrArg (fun l => l[0]?) hd2
      rw [et] at this
      simpa using this
    have er : s.rai m = .ca ((m : Int) + 1) 0 [] [] s.pl := by unfold Shp.rai; rw [if_pos h0]
    have hx : (E.u m).xs[1 + s.bf]? = some (.ca ((m : Int) + 1) 0 [] [] s.pl) := by rw [xs, ← er]; exact Shp.cd_c s m
    have tn : ((m : Int) + 1).toNat = m + 1 := by omega
    have u1 := X.u _ _ hs1
    have ow : outw ((⟨m, 2 + s.bf, z12, [], lk⟩ : Ac) :: r) (0 : Int).toNat r.length = some r.length := by
      show (if r.length < (r.length + 1) then some r.length else none) = _
      rw [if_pos (by omega)]
    have hnx : (⟨m, 1 + s.bf, z12, [], lk⟩ : Ac).nx = ⟨m, 2 + s.bf, z12, [], lk⟩ := by show (⟨m, 1 + s.bf + 1, z12, [], lk⟩ : Ac) = _; rw [show 1 + s.bf + 1 = 2 + s.bf by omega]
    have hrl : ¬ r.length + 1 = 10 := by omega
    have lt1 := X.lt hs1
    have R1 : RX E ((⟨m, 2 + s.bf, z12, [], lk⟩ : Ac) :: r) := by
      refine ⟨R.us X hs, fun c t0 e => ?_, fun n p a b c d => ra_ok X R hs WG.z.1 ⟨⟨a, b⟩, c, d⟩, fun c hc j e => ?_⟩
      · injection e with e1 e2
        subst e1
        refine ⟨by show 1 ≤ 2 + s.bf; omega, (m : Int) + 1, 0, [], s.pl, ?_⟩
        show (E.u m).xs[2 + s.bf - 1]? = _
        rw [show 2 + s.bf - 1 = 1 + s.bf by omega]; exact hx
      · rw [List.length_cons]
        rcases List.mem_cons.mp hc with rfl | hc
        · have := hk j e; omega
        · have := R.lk c hc j e; omega
    have hlt1 : (t.length : Int) = (t1.length : Int) + 1 := by rw [et]; simp
    have hltn : t.length = t1.length + 1 := by rw [et]; simp
    obtain ⟨S1, g1, f1⟩ := IH s1 t1 et s1 (m + 1) ((⟨m, 2 + s.bf, z12, [], lk⟩ : Ac) :: r) eb (fu - 1) (some r.length) (by rw [hd2, et]) kd R1 (fun j e => by injection e with e; subst e; simp) (by omega) (by rw [List.length_cons]; omega) (by omega)
    have g0 : ∀ S', Gx E S1 S' → Gx E ⟨⟨m, 1 + s.bf, z12, [], lk⟩ :: r, eb, 0, fu - 1, none⟩ S' := fun S' g' => by
      refine Gx.one X (R.us X hs) hx ?_ ?_
      · rw [hnx]
        refine ⟨fun _ h => (List.not_mem_nil h).elim, by show 0 ≤ 100; decide, by omega, by omega, by decide, by decide, ?_, ?_, ?_, fun c hc j e => ?_, ?_⟩
        · rw [tn, u1]; rfl
        · rw [tn, u1]; show 0 ≤ 12; decide
        · rw [tn, u1]; show 0 ≤ 1000; decide
        · rcases List.mem_cons.mp hc with rfl | hc
          · have := hk j e; omega
          · have := R.lk c hc j e; omega
        · rw [if_neg hrl]; exact ⟨_, ow⟩
      · rw [hnx]
        have e : actB E ⟨(⟨m, 2 + s.bf, z12, [], lk⟩ : Ac) :: r, eb, 0, fu - 1, none⟩ (⟨m, 2 + s.bf, z12, [], lk⟩ : Ac) r (.ca ((m : Int) + 1) 0 [] [] s.pl) = ⟨⟨m + 1, 0, z12, [], some r.length⟩ :: ⟨m, 2 + s.bf, z12, [], lk⟩ :: r, eb, 0, fu - 1, none⟩ := by
          unfold actB
          dsimp only
          rw [if_neg hrl, ow]
          dsimp only
          unfold newA
          rw [tn, u1]
          rfl
        rw [e]; exact g1.tr g'
    rw [← et] at f1
    have hwl := walkF_len t (m + 1) hokt
    generalize walkF (m + 1) t = x at f1 hwl
    obtain ⟨x1, _ | q⟩ := x
    · obtain ⟨fu', _, f1⟩ := f1
      have f1 := f1 (by simp)
      subst f1
      dsimp only at hwl
      obtain ⟨S', g', f'⟩ := after_run (E := E) (W := z12) (lk := lk) (fu := fu') (ev := eb ++ puL x1) X R hs (by simp [puL]; omega)
      refine ⟨S', g0 _ g', ?_⟩
      dsimp only
      rw [puL_app, ← List.append_assoc]; exact f'
    · obtain ⟨fu', st0, gd, f1⟩ := f1
      dsimp only at hwl
      obtain ⟨S', g', f'⟩ := raise_run X R hs gd (ev := eb ++ puL x1) (by simp [puL]; omega) f1
      refine ⟨S', g0 _ g', ?_⟩
      dsimp only
      rw [puL_app, ← List.append_assoc]; exact f'
  rw [if_neg h0]
  have hnx : (⟨m, 1 + s.bf, z12, [], lk⟩ : Ac).nx = ⟨m, 2 + s.bf, z12, [], lk⟩ := by show (⟨m, 1 + s.bf + 1, z12, [], lk⟩ : Ac) = _; rw [show 1 + s.bf + 1 = 2 + s.bf by omega]
  have hxx : ∀ x, s.rai m = x → (E.u m).xs[1 + s.bf]? = some x := fun x e => by rw [xs, ← e]; exact Shp.cd_c s m
  have hlr : ∀ q : Int × Int, Gd q → ∀ x, s.rai m = x → ActOk E ⟨⟨m, 2 + s.bf, z12, [], lk⟩ :: r, eb, 0, fu - 1, none⟩ ⟨m, 2 + s.bf, z12, [], lk⟩ r x → actB E ⟨(⟨m, 2 + s.bf, z12, [], lk⟩ : Ac) :: r, eb, 0, fu - 1, none⟩ (⟨m, 2 + s.bf, z12, [], lk⟩ : Ac) r x = raiseS E ⟨(⟨m, 2 + s.bf, z12, [], lk⟩ : Ac) :: r, eb, 0, fu - 1, none⟩ q.1 q.2 →
      ∃ S', Gx E ⟨⟨m, 1 + s.bf, z12, [], lk⟩ :: r, eb, 0, fu - 1, none⟩ S' ∧ FinX E r (eb ++ puL ([] ++ (rowsF s 30 q (s.tk (1 + (s.bf : Int))) true z12).1)) (rowsF s 30 q (s.tk (1 + (s.bf : Int))) true z12).2 S' := fun q gq x ex ao ea => by
    obtain ⟨S', g', f'⟩ := raise_run (E := E) (lk := lk) (fu := fu - 1) (ev := eb) (st0 := (⟨m, 2 + s.bf, z12, [], lk⟩ : Ac) :: r) X R hs gq (by omega) rfl
    refine ⟨S', Gx.one X (R.us X hs) (hxx x ex) (by rw [hnx]; exact ao) ?_, f'⟩
    rw [hnx, ea]
    unfold raiseS
    dsimp only
    have : (match unw E q.1 q.2 (⟨m, 2 + s.bf, z12, [], lk⟩ :: r) with | some st => (⟨st, eb, 0, fu - 1, none⟩ : Ms) | none => ⟨⟨m, 2 + s.bf, z12, [], lk⟩ :: r, eb, 0, fu - 1, some (.rais q.1 q.2)⟩) = (match unw E q.1 q.2 (⟨m, 2 + s.bf, z12, [], lk⟩ :: r) with | some st => (⟨st, eb, 0, fu - 1, none⟩ : Ms) | none => ⟨⟨m, 2 + s.bf, z12, [], lk⟩ :: r, eb, 0, fu - 1, some (.rais q.1 q.2)⟩) := rfl
    cases eu : unw E q.1 q.2 (⟨m, 2 + s.bf, z12, [], lk⟩ :: r) with
    | none => rw [eu] at g'; exact g'
    | some st => rw [eu] at g'; exact g'
  unfold Shp.own
  by_cases h1 : s.kd = 1
  · rw [if_pos h1]
    dsimp only
    have er : s.rai m = .pu ("int", 55) := by unfold Shp.rai; rw [if_neg h0, if_pos h1]
    obtain ⟨S', g', f'⟩ := after_run (E := E) (W := z12) (lk := lk) (fu := fu - 1) (ev := eb ++ puL [55]) X R hs (by simp [puL]; omega)
    refine ⟨S', Gx.one (x := .pu ("int", 55)) X (R.us X hs) (hxx _ er) ⟨.inl rfl, Nat.lt_of_le_of_lt (show eb.length ≤ 1000 by omega) (by decide)⟩ ?_, ?_⟩
    · rw [hnx]; exact g'
    · rw [puL_app, ← List.append_assoc]; exact f'
  rw [if_neg h1]
  by_cases h2 : s.kd = 2
  · rw [if_pos h2]
    dsimp only
    have er : s.rai m = .bi 3 0 ("int", 1) ("int", 0) s.pl := by unfold Shp.rai; rw [if_neg h0, if_neg h1, if_pos h2]
    have g0 : Gd (0, s.pl) := ⟨⟨by show (0 : Int) ≤ 0; decide, by show (0 : Int) < 5; decide⟩, ok.p⟩
    refine hlr (0, s.pl) g0 _ er ⟨⟨by decide, by show (0 : Int) < ((12 : Nat) : Int); decide⟩, .inl rfl, .inl rfl, rfl, rfl, fun _ => ra_ok X R hs WG.z.1 g0⟩ ?_
    unfold actB
    dsimp only
    rw [if_neg (fun h => h.1 ⟨⟨by decide, by decide⟩, rfl⟩)]
  · rw [if_neg h2]
    dsimp only
    have er : s.rai m = .ra s.nu s.pl := by unfold Shp.rai; rw [if_neg h0, if_neg h1, if_neg h2]
    have g0 : Gd (s.nu, s.pl) := ⟨ok.n, ok.p⟩
    exact hlr (s.nu, s.pl) g0 _ er (ra_ok X R hs WG.z.1 g0) rfl
theorem unit_run (X : EX E shs) : ∀ t : List Shp, UnitP E shs t
  | [] => unit_step X [] fun _ _ e => nomatch e
  | s1 :: t => unit_step X (s1 :: t) fun s2 t2 e => by
    injection e with e1 e2
    subst e2
    exact unit_run X t
end

/-! ### regions as data -/
section
variable {K : PySem.W.Frag} {H : Hp}
mutual
theorem DT.dp : ∀ {v : V} {d : PyData}, DT K H v d → Dp K H v d
  | _, _, .non => .non
  | _, _, .bl b => .bl b
  | _, _, .int b => .int b
  | _, _, .str b => .str b
  | _, _, .tup h r => .tup h r.dps
theorem DTs.dps : ∀ {vs : List V} {ds : List PyData}, DTs K H vs ds → DpAll K H vs ds
  | _, _, .nil => .nil
  | _, _, .cons h r => .cons h.dp r.dps
end
end
theorem shaped_rgs (rs : List (List Int)) : SeqAt.shaped (.list (rs.map regD)) = true := by
  obtain ⟨h1, h2⟩ := sh_all (n := 1) (ds := rs.map regD) fun d hd => by
    obtain ⟨i, _, rfl⟩ := List.mem_map.mp hd
    exact sh_ints i
  show (PyData.canLayAll0 _ && decide (PyData.depthAll _ + 1 ≤ 64)) = true
  rw [h1, decide_eq_true (by omega)]; rfl
theorem eqvAll_i : ∀ {bs bs' : List Int}, PyData.eqvAll (bs.map PyData.int) (bs'.map PyData.int) = true ↔ bs = bs'
  | [], [] => ⟨fun _ => rfl, fun _ => rfl⟩
  | [], _ :: _ => ⟨(fun h => nomatch h), (fun h => nomatch h)⟩
  | _ :: _, [] => ⟨(fun h => nomatch h), (fun h => nomatch h)⟩
  | b :: r, b' :: r' => by
    rw [List.map_cons, List.map_cons]
    unfold PyData.eqvAll
    rw [Bool.and_eq_true, eqvAll_i (bs := r) (bs' := r')]
    show (b == b') = true ∧ _ ↔ _
    rw [beq_iff_eq, List.cons.injEq]
theorem eqv_reg {p q : List Int} : PyData.eqv (regD p) (regD q) = true ↔ p = q := eqvAll_i

/-! ### shapes -/
def sK (c b f : Int) (rw rg : Addr) (kd nu pl : Int) (od : Addr) : List (Key × V) := [((.inr "call" : Key), .int c), ((.inr "before" : Key), .int b), ((.inr "after" : Key), .int f), ((.inr "rows" : Key), .ref rw), ((.inr "regions" : Key), .ref rg), ((.inr "kind" : Key), .int kd), ((.inr "number" : Key), .int nu), ((.inr "place" : Key), .int pl), ((.inr "order" : Key), .ref od)]
theorem kq_call_before : (("call" : Str) = "before") = False := by simp only [eq_iff_iff, iff_false]; decide +kernel
theorem kq_call_after : (("call" : Str) = "after") = False := by simp only [eq_iff_iff, iff_false]; decide +kernel
theorem kq_call_rows : (("call" : Str) = "rows") = False := by simp only [eq_iff_iff, iff_false]; decide +kernel
theorem kq_call_regions : (("call" : Str) = "regions") = False := by simp only [eq_iff_iff, iff_false]; decide +kernel
theorem kq_call_kind : (("call" : Str) = "kind") = False := by simp only [eq_iff_iff, iff_false]; decide +kernel
theorem kq_call_number : (("call" : Str) = "number") = False := by simp only [eq_iff_iff, iff_false]; decide +kernel
theorem kq_call_place : (("call" : Str) = "place") = False := by simp only [eq_iff_iff, iff_false]; decide +kernel
theorem kq_call_order : (("call" : Str) = "order") = False := by simp only [eq_iff_iff, iff_false]; decide +kernel
theorem kq_before_call : (("before" : Str) = "call") = False := by simp only [eq_iff_iff, iff_false]; decide +kernel
theorem kq_before_after : (("before" : Str) = "after") = False := by simp only [eq_iff_iff, iff_false]; decide +kernel
theorem kq_before_rows : (("before" : Str) = "rows") = False := by simp only [eq_iff_iff, iff_false]; decide +kernel
theorem kq_before_regions : (("before" : Str) = "regions") = False := by simp only [eq_iff_iff, iff_false]; decide +kernel
theorem kq_before_kind : (("before" : Str) = "kind") = False := by simp only [eq_iff_iff, iff_false]; decide +kernel
theorem kq_before_number : (("before" : Str) = "number") = False := by simp only [eq_iff_iff, iff_false]; decide +kernel
theorem kq_before_place : (("before" : Str) = "place") = False := by simp only [eq_iff_iff, iff_false]; decide +kernel
theorem kq_before_order : (("before" : Str) = "order") = False := by simp only [eq_iff_iff, iff_false]; decide +kernel
theorem kq_after_call : (("after" : Str) = "call") = False := by simp only [eq_iff_iff, iff_false]; decide +kernel
theorem kq_after_before : (("after" : Str) = "before") = False := by simp only [eq_iff_iff, iff_false]; decide +kernel
theorem kq_after_rows : (("after" : Str) = "rows") = False := by simp only [eq_iff_iff, iff_false]; decide +kernel
theorem kq_after_regions : (("after" : Str) = "regions") = False := by simp only [eq_iff_iff, iff_false]; decide +kernel
theorem kq_after_kind : (("after" : Str) = "kind") = False := by simp only [eq_iff_iff, iff_false]; decide +kernel
theorem kq_after_number : (("after" : Str) = "number") = False := by simp only [eq_iff_iff, iff_false]; decide +kernel
theorem kq_after_place : (("after" : Str) = "place") = False := by simp only [eq_iff_iff, iff_false]; decide +kernel
theorem kq_after_order : (("after" : Str) = "order") = False := by simp only [eq_iff_iff, iff_false]; decide +kernel
theorem kq_rows_call : (("rows" : Str) = "call") = False := by simp only [eq_iff_iff, iff_false]; decide +kernel
theorem kq_rows_before : (("rows" : Str) = "before") = False := by simp only [eq_iff_iff, iff_false]; decide +kernel
theorem kq_rows_after : (("rows" : Str) = "after") = False := by simp only [eq_iff_iff, iff_false]; decide +kernel
theorem kq_rows_regions : (("rows" : Str) = "regions") = False := by simp only [eq_iff_iff, iff_false]; decide +kernel
theorem kq_rows_kind : (("rows" : Str) = "kind") = False := by simp only [eq_iff_iff, iff_false]; decide +kernel
theorem kq_rows_number : (("rows" : Str) = "number") = False := by simp only [eq_iff_iff, iff_false]; decide +kernel
theorem kq_rows_place : (("rows" : Str) = "place") = False := by simp only [eq_iff_iff, iff_false]; decide +kernel
theorem kq_rows_order : (("rows" : Str) = "order") = False := by simp only [eq_iff_iff, iff_false]; decide +kernel
theorem kq_regions_call : (("regions" : Str) = "call") = False := by simp only [eq_iff_iff, iff_false]; decide +kernel
theorem kq_regions_before : (("regions" : Str) = "before") = False := by simp only [eq_iff_iff, iff_false]; decide +kernel
theorem kq_regions_after : (("regions" : Str) = "after") = False := by simp only [eq_iff_iff, iff_false]; decide +kernel
theorem kq_regions_rows : (("regions" : Str) = "rows") = False := by simp only [eq_iff_iff, iff_false]; decide +kernel
theorem kq_regions_kind : (("regions" : Str) = "kind") = False := by simp only [eq_iff_iff, iff_false]; decide +kernel
theorem kq_regions_number : (("regions" : Str) = "number") = False := by simp only [eq_iff_iff, iff_false]; decide +kernel
theorem kq_regions_place : (("regions" : Str) = "place") = False := by simp only [eq_iff_iff, iff_false]; decide +kernel
theorem kq_regions_order : (("regions" : Str) = "order") = False := by simp only [eq_iff_iff, iff_false]; decide +kernel
theorem kq_kind_call : (("kind" : Str) = "call") = False := by simp only [eq_iff_iff, iff_false]; decide +kernel
theorem kq_kind_before : (("kind" : Str) = "before") = False := by simp only [eq_iff_iff, iff_false]; decide +kernel
theorem kq_kind_after : (("kind" : Str) = "after") = False := by simp only [eq_iff_iff, iff_false]; decide +kernel
theorem kq_kind_rows : (("kind" : Str) = "rows") = False := by simp only [eq_iff_iff, iff_false]; decide +kernel
theorem kq_kind_regions : (("kind" : Str) = "regions") = False := by simp only [eq_iff_iff, iff_false]; decide +kernel
theorem kq_kind_number : (("kind" : Str) = "number") = False := by simp only [eq_iff_iff, iff_false]; decide +kernel
theorem kq_kind_place : (("kind" : Str) = "place") = False := by simp only [eq_iff_iff, iff_false]; decide +kernel
theorem kq_kind_order : (("kind" : Str) = "order") = False := by simp only [eq_iff_iff, iff_false]; decide +kernel
theorem kq_number_call : (("number" : Str) = "call") = False := by simp only [eq_iff_iff, iff_false]; decide +kernel
theorem kq_number_before : (("number" : Str) = "before") = False := by simp only [eq_iff_iff, iff_false]; decide +kernel
theorem kq_number_after : (("number" : Str) = "after") = False := by simp only [eq_iff_iff, iff_false]; decide +kernel
theorem kq_number_rows : (("number" : Str) = "rows") = False := by simp only [eq_iff_iff, iff_false]; decide +kernel
theorem kq_number_regions : (("number" : Str) = "regions") = False := by simp only [eq_iff_iff, iff_false]; decide +kernel
theorem kq_number_kind : (("number" : Str) = "kind") = False := by simp only [eq_iff_iff, iff_false]; decide +kernel
theorem kq_number_place : (("number" : Str) = "place") = False := by simp only [eq_iff_iff, iff_false]; decide +kernel
theorem kq_number_order : (("number" : Str) = "order") = False := by simp only [eq_iff_iff, iff_false]; decide +kernel
theorem kq_place_call : (("place" : Str) = "call") = False := by simp only [eq_iff_iff, iff_false]; decide +kernel
theorem kq_place_before : (("place" : Str) = "before") = False := by simp only [eq_iff_iff, iff_false]; decide +kernel
theorem kq_place_after : (("place" : Str) = "after") = False := by simp only [eq_iff_iff, iff_false]; decide +kernel
theorem kq_place_rows : (("place" : Str) = "rows") = False := by simp only [eq_iff_iff, iff_false]; decide +kernel
theorem kq_place_regions : (("place" : Str) = "regions") = False := by simp only [eq_iff_iff, iff_false]; decide +kernel
theorem kq_place_kind : (("place" : Str) = "kind") = False := by simp only [eq_iff_iff, iff_false]; decide +kernel
theorem kq_place_number : (("place" : Str) = "number") = False := by simp only [eq_iff_iff, iff_false]; decide +kernel
theorem kq_place_order : (("place" : Str) = "order") = False := by simp only [eq_iff_iff, iff_false]; decide +kernel
theorem kq_order_call : (("order" : Str) = "call") = False := by simp only [eq_iff_iff, iff_false]; decide +kernel
theorem kq_order_before : (("order" : Str) = "before") = False := by simp only [eq_iff_iff, iff_false]; decide +kernel
theorem kq_order_after : (("order" : Str) = "after") = False := by simp only [eq_iff_iff, iff_false]; decide +kernel
theorem kq_order_rows : (("order" : Str) = "rows") = False := by simp only [eq_iff_iff, iff_false]; decide +kernel
theorem kq_order_regions : (("order" : Str) = "regions") = False := by simp only [eq_iff_iff, iff_false]; decide +kernel
theorem kq_order_kind : (("order" : Str) = "kind") = False := by simp only [eq_iff_iff, iff_false]; decide +kernel
theorem kq_order_number : (("order" : Str) = "number") = False := by simp only [eq_iff_iff, iff_false]; decide +kernel
theorem kq_order_place : (("order" : Str) = "place") = False := by simp only [eq_iff_iff, iff_false]; decide +kernel
theorem sv_call {c b f : Int} {rw rg : Addr} {kd nu pl : Int} {od : Addr} : valV (sK c b f rw rg kd nu pl od) (.inr "call") = some (.int c) := by simp [valV, sK, List.find?]
theorem sg_call {H : Hp} {R : Addr} {c b f : Int} {rw rg : Addr} {kd nu pl : Int} {od : Addr} (h : H R = some (.dK (sK c b f rw rg kd nu pl od))) : DGet H R (.str "call") (some (.int c)) := by have := DGet.k (k := .inr "call") h; rw [sv_call] at this; exact this
theorem sv_before {c b f : Int} {rw rg : Addr} {kd nu pl : Int} {od : Addr} : valV (sK c b f rw rg kd nu pl od) (.inr "before") = some (.int b) := by simp [valV, sK, List.find?, kq_call_before]
theorem sg_before {H : Hp} {R : Addr} {c b f : Int} {rw rg : Addr} {kd nu pl : Int} {od : Addr} (h : H R = some (.dK (sK c b f rw rg kd nu pl od))) : DGet H R (.str "before") (some (.int b)) := by have := DGet.k (k := .inr "before") h; rw [sv_before] at this; exact this
theorem sv_after {c b f : Int} {rw rg : Addr} {kd nu pl : Int} {od : Addr} : valV (sK c b f rw rg kd nu pl od) (.inr "after") = some (.int f) := by simp [valV, sK, List.find?, kq_call_after, kq_before_after]
theorem sg_after {H : Hp} {R : Addr} {c b f : Int} {rw rg : Addr} {kd nu pl : Int} {od : Addr} (h : H R = some (.dK (sK c b f rw rg kd nu pl od))) : DGet H R (.str "after") (some (.int f)) := by have := DGet.k (k := .inr "after") h; rw [sv_after] at this; exact this
theorem sv_rows {c b f : Int} {rw rg : Addr} {kd nu pl : Int} {od : Addr} : valV (sK c b f rw rg kd nu pl od) (.inr "rows") = some (.ref rw) := by simp [valV, sK, List.find?, kq_call_rows, kq_before_rows, kq_after_rows]
theorem sg_rows {H : Hp} {R : Addr} {c b f : Int} {rw rg : Addr} {kd nu pl : Int} {od : Addr} (h : H R = some (.dK (sK c b f rw rg kd nu pl od))) : DGet H R (.str "rows") (some (.ref rw)) := by have := DGet.k (k := .inr "rows") h; rw [sv_rows] at this; exact this
theorem sv_regions {c b f : Int} {rw rg : Addr} {kd nu pl : Int} {od : Addr} : valV (sK c b f rw rg kd nu pl od) (.inr "regions") = some (.ref rg) := by simp [valV, sK, List.find?, kq_call_regions, kq_before_regions, kq_after_regions, kq_rows_regions]
theorem sg_regions {H : Hp} {R : Addr} {c b f : Int} {rw rg : Addr} {kd nu pl : Int} {od : Addr} (h : H R = some (.dK (sK c b f rw rg kd nu pl od))) : DGet H R (.str "regions") (some (.ref rg)) := by have := DGet.k (k := .inr "regions") h; rw [sv_regions] at this; exact this
theorem sv_kind {c b f : Int} {rw rg : Addr} {kd nu pl : Int} {od : Addr} : valV (sK c b f rw rg kd nu pl od) (.inr "kind") = some (.int kd) := by simp [valV, sK, List.find?, kq_call_kind, kq_before_kind, kq_after_kind, kq_rows_kind, kq_regions_kind]
theorem sg_kind {H : Hp} {R : Addr} {c b f : Int} {rw rg : Addr} {kd nu pl : Int} {od : Addr} (h : H R = some (.dK (sK c b f rw rg kd nu pl od))) : DGet H R (.str "kind") (some (.int kd)) := by have := DGet.k (k := .inr "kind") h; rw [sv_kind] at this; exact this
theorem sv_number {c b f : Int} {rw rg : Addr} {kd nu pl : Int} {od : Addr} : valV (sK c b f rw rg kd nu pl od) (.inr "number") = some (.int nu) := by simp [valV, sK, List.find?, kq_call_number, kq_before_number, kq_after_number, kq_rows_number, kq_regions_number, kq_kind_number]
theorem sg_number {H : Hp} {R : Addr} {c b f : Int} {rw rg : Addr} {kd nu pl : Int} {od : Addr} (h : H R = some (.dK (sK c b f rw rg kd nu pl od))) : DGet H R (.str "number") (some (.int nu)) := by have := DGet.k (k := .inr "number") h; rw [sv_number] at this; exact this
theorem sv_place {c b f : Int} {rw rg : Addr} {kd nu pl : Int} {od : Addr} : valV (sK c b f rw rg kd nu pl od) (.inr "place") = some (.int pl) := by simp [valV, sK, List.find?, kq_call_place, kq_before_place, kq_after_place, kq_rows_place, kq_regions_place, kq_kind_place, kq_number_place]
theorem sg_place {H : Hp} {R : Addr} {c b f : Int} {rw rg : Addr} {kd nu pl : Int} {od : Addr} (h : H R = some (.dK (sK c b f rw rg kd nu pl od))) : DGet H R (.str "place") (some (.int pl)) := by have := DGet.k (k := .inr "place") h; rw [sv_place] at this; exact this
theorem sv_order {c b f : Int} {rw rg : Addr} {kd nu pl : Int} {od : Addr} : valV (sK c b f rw rg kd nu pl od) (.inr "order") = some (.ref od) := by simp [valV, sK, List.find?, kq_call_order, kq_before_order, kq_after_order, kq_rows_order, kq_regions_order, kq_kind_order, kq_number_order, kq_place_order]
theorem sg_order {H : Hp} {R : Addr} {c b f : Int} {rw rg : Addr} {kd nu pl : Int} {od : Addr} (h : H R = some (.dK (sK c b f rw rg kd nu pl od))) : DGet H R (.str "order") (some (.ref od)) := by have := DGet.k (k := .inr "order") h; rw [sv_order] at this; exact this
theorem mk5 {c b f : Int} {rw rg : Addr} : mergeK [] [((.inr "call" : Key), .int c), ((.inr "before" : Key), .int b), ((.inr "after" : Key), .int f), ((.inr "rows" : Key), .ref rw), ((.inr "regions" : Key), .ref rg)] = [((.inr "call" : Key), .int c), ((.inr "before" : Key), .int b), ((.inr "after" : Key), .int f), ((.inr "rows" : Key), .ref rw), ((.inr "regions" : Key), .ref rg)] := by simp [mergeK, putK, kq_call_before, kq_call_after, kq_call_rows, kq_call_regions, kq_before_call, kq_before_after, kq_before_rows, kq_before_regions, kq_after_call, kq_after_before, kq_after_rows, kq_after_regions, kq_rows_call, kq_rows_before, kq_rows_after, kq_rows_regions, kq_regions_call, kq_regions_before, kq_regions_after, kq_regions_rows]
theorem pk6 {c b f : Int} {rw rg : Addr} {kd : Int} : putK [((.inr "call" : Key), .int c), ((.inr "before" : Key), .int b), ((.inr "after" : Key), .int f), ((.inr "rows" : Key), .ref rw), ((.inr "regions" : Key), .ref rg)] (.inr "kind") (.int kd) = [((.inr "call" : Key), .int c), ((.inr "before" : Key), .int b), ((.inr "after" : Key), .int f), ((.inr "rows" : Key), .ref rw), ((.inr "regions" : Key), .ref rg), ((.inr "kind" : Key), .int kd)] := by simp [putK, kq_call_kind, kq_before_kind, kq_after_kind, kq_rows_kind, kq_regions_kind]
theorem pk7 {c b f : Int} {rw rg : Addr} {kd : Int} {nu : Int} : putK [((.inr "call" : Key), .int c), ((.inr "before" : Key), .int b), ((.inr "after" : Key), .int f), ((.inr "rows" : Key), .ref rw), ((.inr "regions" : Key), .ref rg), ((.inr "kind" : Key), .int kd)] (.inr "number") (.int nu) = [((.inr "call" : Key), .int c), ((.inr "before" : Key), .int b), ((.inr "after" : Key), .int f), ((.inr "rows" : Key), .ref rw), ((.inr "regions" : Key), .ref rg), ((.inr "kind" : Key), .int kd), ((.inr "number" : Key), .int nu)] := by simp [putK, kq_call_number, kq_before_number, kq_after_number, kq_rows_number, kq_regions_number, kq_kind_number]
theorem pk8 {c b f : Int} {rw rg : Addr} {kd : Int} {nu : Int} {pl : Int} : putK [((.inr "call" : Key), .int c), ((.inr "before" : Key), .int b), ((.inr "after" : Key), .int f), ((.inr "rows" : Key), .ref rw), ((.inr "regions" : Key), .ref rg), ((.inr "kind" : Key), .int kd), ((.inr "number" : Key), .int nu)] (.inr "place") (.int pl) = [((.inr "call" : Key), .int c), ((.inr "before" : Key), .int b), ((.inr "after" : Key), .int f), ((.inr "rows" : Key), .ref rw), ((.inr "regions" : Key), .ref rg), ((.inr "kind" : Key), .int kd), ((.inr "number" : Key), .int nu), ((.inr "place" : Key), .int pl)] := by simp [putK, kq_call_place, kq_before_place, kq_after_place, kq_rows_place, kq_regions_place, kq_kind_place, kq_number_place]
theorem pk9 {c b f : Int} {rw rg : Addr} {kd : Int} {nu : Int} {pl : Int} {od : Addr} : putK [((.inr "call" : Key), .int c), ((.inr "before" : Key), .int b), ((.inr "after" : Key), .int f), ((.inr "rows" : Key), .ref rw), ((.inr "regions" : Key), .ref rg), ((.inr "kind" : Key), .int kd), ((.inr "number" : Key), .int nu), ((.inr "place" : Key), .int pl)] (.inr "order") (.ref od) = [((.inr "call" : Key), .int c), ((.inr "before" : Key), .int b), ((.inr "after" : Key), .int f), ((.inr "rows" : Key), .ref rw), ((.inr "regions" : Key), .ref rg), ((.inr "kind" : Key), .int kd), ((.inr "number" : Key), .int nu), ((.inr "place" : Key), .int pl), ((.inr "order" : Key), .ref od)] := by simp [putK, kq_call_order, kq_before_order, kq_after_order, kq_rows_order, kq_regions_order, kq_kind_order, kq_number_order, kq_place_order]
theorem pkk {c b f : Int} {rw rg : Addr} {kd : Int} {kd2 : Int} : putK [((.inr "call" : Key), .int c), ((.inr "before" : Key), .int b), ((.inr "after" : Key), .int f), ((.inr "rows" : Key), .ref rw), ((.inr "regions" : Key), .ref rg), ((.inr "kind" : Key), .int kd)] (.inr "kind") (.int kd2) = [((.inr "call" : Key), .int c), ((.inr "before" : Key), .int b), ((.inr "after" : Key), .int f), ((.inr "rows" : Key), .ref rw), ((.inr "regions" : Key), .ref rg), ((.inr "kind" : Key), .int kd2)] := by simp [putK, kq_call_kind, kq_before_kind, kq_after_kind, kq_rows_kind, kq_regions_kind]
theorem gv5_call {c b f : Int} {rw rg : Addr} : valV [((.inr "call" : Key), .int c), ((.inr "before" : Key), .int b), ((.inr "after" : Key), .int f), ((.inr "rows" : Key), .ref rw), ((.inr "regions" : Key), .ref rg)] (.inr "call") = some (.int c) := by simp [valV, List.find?]
theorem gg5_call {H : Hp} {R : Addr} {c b f : Int} {rw rg : Addr} (h : H R = some (.dK [((.inr "call" : Key), .int c), ((.inr "before" : Key), .int b), ((.inr "after" : Key), .int f), ((.inr "rows" : Key), .ref rw), ((.inr "regions" : Key), .ref rg)])) : DGet H R (.str "call") (some (.int c)) := by have := DGet.k (k := .inr "call") h; rw [gv5_call] at this; exact this
theorem gv5_after {c b f : Int} {rw rg : Addr} : valV [((.inr "call" : Key), .int c), ((.inr "before" : Key), .int b), ((.inr "after" : Key), .int f), ((.inr "rows" : Key), .ref rw), ((.inr "regions" : Key), .ref rg)] (.inr "after") = some (.int f) := by simp [valV, List.find?, kq_call_after, kq_before_after]
theorem gg5_after {H : Hp} {R : Addr} {c b f : Int} {rw rg : Addr} (h : H R = some (.dK [((.inr "call" : Key), .int c), ((.inr "before" : Key), .int b), ((.inr "after" : Key), .int f), ((.inr "rows" : Key), .ref rw), ((.inr "regions" : Key), .ref rg)])) : DGet H R (.str "after") (some (.int f)) := by have := DGet.k (k := .inr "after") h; rw [gv5_after] at this; exact this
theorem gv5_rows {c b f : Int} {rw rg : Addr} : valV [((.inr "call" : Key), .int c), ((.inr "before" : Key), .int b), ((.inr "after" : Key), .int f), ((.inr "rows" : Key), .ref rw), ((.inr "regions" : Key), .ref rg)] (.inr "rows") = some (.ref rw) := by simp [valV, List.find?, kq_call_rows, kq_before_rows, kq_after_rows]
theorem gg5_rows {H : Hp} {R : Addr} {c b f : Int} {rw rg : Addr} (h : H R = some (.dK [((.inr "call" : Key), .int c), ((.inr "before" : Key), .int b), ((.inr "after" : Key), .int f), ((.inr "rows" : Key), .ref rw), ((.inr "regions" : Key), .ref rg)])) : DGet H R (.str "rows") (some (.ref rw)) := by have := DGet.k (k := .inr "rows") h; rw [gv5_rows] at this; exact this
theorem gv5_regions {c b f : Int} {rw rg : Addr} : valV [((.inr "call" : Key), .int c), ((.inr "before" : Key), .int b), ((.inr "after" : Key), .int f), ((.inr "rows" : Key), .ref rw), ((.inr "regions" : Key), .ref rg)] (.inr "regions") = some (.ref rg) := by simp [valV, List.find?, kq_call_regions, kq_before_regions, kq_after_regions, kq_rows_regions]
theorem gg5_regions {H : Hp} {R : Addr} {c b f : Int} {rw rg : Addr} (h : H R = some (.dK [((.inr "call" : Key), .int c), ((.inr "before" : Key), .int b), ((.inr "after" : Key), .int f), ((.inr "rows" : Key), .ref rw), ((.inr "regions" : Key), .ref rg)])) : DGet H R (.str "regions") (some (.ref rg)) := by have := DGet.k (k := .inr "regions") h; rw [gv5_regions] at this; exact this
theorem gv6_call {c b f : Int} {rw rg : Addr} {kd : Int} : valV [((.inr "call" : Key), .int c), ((.inr "before" : Key), .int b), ((.inr "after" : Key), .int f), ((.inr "rows" : Key), .ref rw), ((.inr "regions" : Key), .ref rg), ((.inr "kind" : Key), .int kd)] (.inr "call") = some (.int c) := by simp [valV, List.find?]
theorem gg6_call {H : Hp} {R : Addr} {c b f : Int} {rw rg : Addr} {kd : Int} (h : H R = some (.dK [((.inr "call" : Key), .int c), ((.inr "before" : Key), .int b), ((.inr "after" : Key), .int f), ((.inr "rows" : Key), .ref rw), ((.inr "regions" : Key), .ref rg), ((.inr "kind" : Key), .int kd)])) : DGet H R (.str "call") (some (.int c)) := by have := DGet.k (k := .inr "call") h; rw [gv6_call] at this; exact this
theorem gv6_after {c b f : Int} {rw rg : Addr} {kd : Int} : valV [((.inr "call" : Key), .int c), ((.inr "before" : Key), .int b), ((.inr "after" : Key), .int f), ((.inr "rows" : Key), .ref rw), ((.inr "regions" : Key), .ref rg), ((.inr "kind" : Key), .int kd)] (.inr "after") = some (.int f) := by simp [valV, List.find?, kq_call_after, kq_before_after]
theorem gg6_after {H : Hp} {R : Addr} {c b f : Int} {rw rg : Addr} {kd : Int} (h : H R = some (.dK [((.inr "call" : Key), .int c), ((.inr "before" : Key), .int b), ((.inr "after" : Key), .int f), ((.inr "rows" : Key), .ref rw), ((.inr "regions" : Key), .ref rg), ((.inr "kind" : Key), .int kd)])) : DGet H R (.str "after") (some (.int f)) := by have := DGet.k (k := .inr "after") h; rw [gv6_after] at this; exact this
theorem gv6_rows {c b f : Int} {rw rg : Addr} {kd : Int} : valV [((.inr "call" : Key), .int c), ((.inr "before" : Key), .int b), ((.inr "after" : Key), .int f), ((.inr "rows" : Key), .ref rw), ((.inr "regions" : Key), .ref rg), ((.inr "kind" : Key), .int kd)] (.inr "rows") = some (.ref rw) := by simp [valV, List.find?, kq_call_rows, kq_before_rows, kq_after_rows]
theorem gg6_rows {H : Hp} {R : Addr} {c b f : Int} {rw rg : Addr} {kd : Int} (h : H R = some (.dK [((.inr "call" : Key), .int c), ((.inr "before" : Key), .int b), ((.inr "after" : Key), .int f), ((.inr "rows" : Key), .ref rw), ((.inr "regions" : Key), .ref rg), ((.inr "kind" : Key), .int kd)])) : DGet H R (.str "rows") (some (.ref rw)) := by have := DGet.k (k := .inr "rows") h; rw [gv6_rows] at this; exact this
theorem gv6_regions {c b f : Int} {rw rg : Addr} {kd : Int} : valV [((.inr "call" : Key), .int c), ((.inr "before" : Key), .int b), ((.inr "after" : Key), .int f), ((.inr "rows" : Key), .ref rw), ((.inr "regions" : Key), .ref rg), ((.inr "kind" : Key), .int kd)] (.inr "regions") = some (.ref rg) := by simp [valV, List.find?, kq_call_regions, kq_before_regions, kq_after_regions, kq_rows_regions]
theorem gg6_regions {H : Hp} {R : Addr} {c b f : Int} {rw rg : Addr} {kd : Int} (h : H R = some (.dK [((.inr "call" : Key), .int c), ((.inr "before" : Key), .int b), ((.inr "after" : Key), .int f), ((.inr "rows" : Key), .ref rw), ((.inr "regions" : Key), .ref rg), ((.inr "kind" : Key), .int kd)])) : DGet H R (.str "regions") (some (.ref rg)) := by have := DGet.k (k := .inr "regions") h; rw [gv6_regions] at this; exact this
theorem gv7_call {c b f : Int} {rw rg : Addr} {kd : Int} {nu : Int} : valV [((.inr "call" : Key), .int c), ((.inr "before" : Key), .int b), ((.inr "after" : Key), .int f), ((.inr "rows" : Key), .ref rw), ((.inr "regions" : Key), .ref rg), ((.inr "kind" : Key), .int kd), ((.inr "number" : Key), .int nu)] (.inr "call") = some (.int c) := by simp [valV, List.find?]
theorem gg7_call {H : Hp} {R : Addr} {c b f : Int} {rw rg : Addr} {kd : Int} {nu : Int} (h : H R = some (.dK [((.inr "call" : Key), .int c), ((.inr "before" : Key), .int b), ((.inr "after" : Key), .int f), ((.inr "rows" : Key), .ref rw), ((.inr "regions" : Key), .ref rg), ((.inr "kind" : Key), .int kd), ((.inr "number" : Key), .int nu)])) : DGet H R (.str "call") (some (.int c)) := by have := DGet.k (k := .inr "call") h; rw [gv7_call] at this; exact this
theorem gv7_after {c b f : Int} {rw rg : Addr} {kd : Int} {nu : Int} : valV [((.inr "call" : Key), .int c), ((.inr "before" : Key), .int b), ((.inr "after" : Key), .int f), ((.inr "rows" : Key), .ref rw), ((.inr "regions" : Key), .ref rg), ((.inr "kind" : Key), .int kd), ((.inr "number" : Key), .int nu)] (.inr "after") = some (.int f) := by simp [valV, List.find?, kq_call_after, kq_before_after]
theorem gg7_after {H : Hp} {R : Addr} {c b f : Int} {rw rg : Addr} {kd : Int} {nu : Int} (h : H R = some (.dK [((.inr "call" : Key), .int c), ((.inr "before" : Key), .int b), ((.inr "after" : Key), .int f), ((.inr "rows" : Key), .ref rw), ((.inr "regions" : Key), .ref rg), ((.inr "kind" : Key), .int kd), ((.inr "number" : Key), .int nu)])) : DGet H R (.str "after") (some (.int f)) := by have := DGet.k (k := .inr "after") h; rw [gv7_after] at this; exact this
theorem gv7_rows {c b f : Int} {rw rg : Addr} {kd : Int} {nu : Int} : valV [((.inr "call" : Key), .int c), ((.inr "before" : Key), .int b), ((.inr "after" : Key), .int f), ((.inr "rows" : Key), .ref rw), ((.inr "regions" : Key), .ref rg), ((.inr "kind" : Key), .int kd), ((.inr "number" : Key), .int nu)] (.inr "rows") = some (.ref rw) := by simp [valV, List.find?, kq_call_rows, kq_before_rows, kq_after_rows]
theorem gg7_rows {H : Hp} {R : Addr} {c b f : Int} {rw rg : Addr} {kd : Int} {nu : Int} (h : H R = some (.dK [((.inr "call" : Key), .int c), ((.inr "before" : Key), .int b), ((.inr "after" : Key), .int f), ((.inr "rows" : Key), .ref rw), ((.inr "regions" : Key), .ref rg), ((.inr "kind" : Key), .int kd), ((.inr "number" : Key), .int nu)])) : DGet H R (.str "rows") (some (.ref rw)) := by have := DGet.k (k := .inr "rows") h; rw [gv7_rows] at this; exact this
theorem gv7_regions {c b f : Int} {rw rg : Addr} {kd : Int} {nu : Int} : valV [((.inr "call" : Key), .int c), ((.inr "before" : Key), .int b), ((.inr "after" : Key), .int f), ((.inr "rows" : Key), .ref rw), ((.inr "regions" : Key), .ref rg), ((.inr "kind" : Key), .int kd), ((.inr "number" : Key), .int nu)] (.inr "regions") = some (.ref rg) := by simp [valV, List.find?, kq_call_regions, kq_before_regions, kq_after_regions, kq_rows_regions]
theorem gg7_regions {H : Hp} {R : Addr} {c b f : Int} {rw rg : Addr} {kd : Int} {nu : Int} (h : H R = some (.dK [((.inr "call" : Key), .int c), ((.inr "before" : Key), .int b), ((.inr "after" : Key), .int f), ((.inr "rows" : Key), .ref rw), ((.inr "regions" : Key), .ref rg), ((.inr "kind" : Key), .int kd), ((.inr "number" : Key), .int nu)])) : DGet H R (.str "regions") (some (.ref rg)) := by have := DGet.k (k := .inr "regions") h; rw [gv7_regions] at this; exact this
theorem gv8_call {c b f : Int} {rw rg : Addr} {kd : Int} {nu : Int} {pl : Int} : valV [((.inr "call" : Key), .int c), ((.inr "before" : Key), .int b), ((.inr "after" : Key), .int f), ((.inr "rows" : Key), .ref rw), ((.inr "regions" : Key), .ref rg), ((.inr "kind" : Key), .int kd), ((.inr "number" : Key), .int nu), ((.inr "place" : Key), .int pl)] (.inr "call") = some (.int c) := by simp [valV, List.find?]
theorem gg8_call {H : Hp} {R : Addr} {c b f : Int} {rw rg : Addr} {kd : Int} {nu : Int} {pl : Int} (h : H R = some (.dK [((.inr "call" : Key), .int c), ((.inr "before" : Key), .int b), ((.inr "after" : Key), .int f), ((.inr "rows" : Key), .ref rw), ((.inr "regions" : Key), .ref rg), ((.inr "kind" : Key), .int kd), ((.inr "number" : Key), .int nu), ((.inr "place" : Key), .int pl)])) : DGet H R (.str "call") (some (.int c)) := by have := DGet.k (k := .inr "call") h; rw [gv8_call] at this; exact this
theorem gv8_after {c b f : Int} {rw rg : Addr} {kd : Int} {nu : Int} {pl : Int} : valV [((.inr "call" : Key), .int c), ((.inr "before" : Key), .int b), ((.inr "after" : Key), .int f), ((.inr "rows" : Key), .ref rw), ((.inr "regions" : Key), .ref rg), ((.inr "kind" : Key), .int kd), ((.inr "number" : Key), .int nu), ((.inr "place" : Key), .int pl)] (.inr "after") = some (.int f) := by simp [valV, List.find?, kq_call_after, kq_before_after]
theorem gg8_after {H : Hp} {R : Addr} {c b f : Int} {rw rg : Addr} {kd : Int} {nu : Int} {pl : Int} (h : H R = some (.dK [((.inr "call" : Key), .int c), ((.inr "before" : Key), .int b), ((.inr "after" : Key), .int f), ((.inr "rows" : Key), .ref rw), ((.inr "regions" : Key), .ref rg), ((.inr "kind" : Key), .int kd), ((.inr "number" : Key), .int nu), ((.inr "place" : Key), .int pl)])) : DGet H R (.str "after") (some (.int f)) := by have := DGet.k (k := .inr "after") h; rw [gv8_after] at this; exact this
theorem gv8_rows {c b f : Int} {rw rg : Addr} {kd : Int} {nu : Int} {pl : Int} : valV [((.inr "call" : Key), .int c), ((.inr "before" : Key), .int b), ((.inr "after" : Key), .int f), ((.inr "rows" : Key), .ref rw), ((.inr "regions" : Key), .ref rg), ((.inr "kind" : Key), .int kd), ((.inr "number" : Key), .int nu), ((.inr "place" : Key), .int pl)] (.inr "rows") = some (.ref rw) := by simp [valV, List.find?, kq_call_rows, kq_before_rows, kq_after_rows]
theorem gg8_rows {H : Hp} {R : Addr} {c b f : Int} {rw rg : Addr} {kd : Int} {nu : Int} {pl : Int} (h : H R = some (.dK [((.inr "call" : Key), .int c), ((.inr "before" : Key), .int b), ((.inr "after" : Key), .int f), ((.inr "rows" : Key), .ref rw), ((.inr "regions" : Key), .ref rg), ((.inr "kind" : Key), .int kd), ((.inr "number" : Key), .int nu), ((.inr "place" : Key), .int pl)])) : DGet H R (.str "rows") (some (.ref rw)) := by have := DGet.k (k := .inr "rows") h; rw [gv8_rows] at this; exact this
theorem gv8_regions {c b f : Int} {rw rg : Addr} {kd : Int} {nu : Int} {pl : Int} : valV [((.inr "call" : Key), .int c), ((.inr "before" : Key), .int b), ((.inr "after" : Key), .int f), ((.inr "rows" : Key), .ref rw), ((.inr "regions" : Key), .ref rg), ((.inr "kind" : Key), .int kd), ((.inr "number" : Key), .int nu), ((.inr "place" : Key), .int pl)] (.inr "regions") = some (.ref rg) := by simp [valV, List.find?, kq_call_regions, kq_before_regions, kq_after_regions, kq_rows_regions]
theorem gg8_regions {H : Hp} {R : Addr} {c b f : Int} {rw rg : Addr} {kd : Int} {nu : Int} {pl : Int} (h : H R = some (.dK [((.inr "call" : Key), .int c), ((.inr "before" : Key), .int b), ((.inr "after" : Key), .int f), ((.inr "rows" : Key), .ref rw), ((.inr "regions" : Key), .ref rg), ((.inr "kind" : Key), .int kd), ((.inr "number" : Key), .int nu), ((.inr "place" : Key), .int pl)])) : DGet H R (.str "regions") (some (.ref rg)) := by have := DGet.k (k := .inr "regions") h; rw [gv8_regions] at this; exact this

theorem GS.put {K : PySem.W.Frag} {τ τ' : Tg} {H H' : Hp} {D : Addr} {ys : List V} {o : HO} (h : GS K τ τ' H H') (n : H D = none) (e : H' D = some (.lst ys)) : GS K τ τ' H (upd H' D o) :=
  ⟨⟨fun b u q m => by rw [upd_ne (ne_of_none q n)]; exact h.s.fr b u q m, h.s.ag, fun b q => by
    by_cases c : b = D
    · rw [c] at q; exact absurd n q
    · rw [upd_ne c]; exact h.s.al b q⟩, h.k.tr (KT.put e)⟩
theorem GS.free {K : PySem.W.Frag} {τ τ' : Tg} {H H' : Hp} {D : Addr} (h : GS K τ τ' H H') (n : H' D = none) : H D = none := by
  cases c : H D with
  | none => rfl
  | some o => exact absurd n (h.s.al D (some_ne c))
theorem KT.putK {K : PySem.W.Frag} {H : Hp} {p : Addr} {ks : List (Key × V)} {o : HO} (e : H p = some (.dK ks)) : KT K H (upd H p o) := fun a xs h => by
  rcases h with (h | ⟨u, h⟩) | h
  · exact .inl (.inl (by rw [upd_ne (ne_of h e fun z => nomatch z)]; exact h))
  · exact .inl (.inr ⟨u, by rw [upd_ne (ne_of h e fun z => nomatch z)]; exact h⟩)
  · exact .inr h
theorem GS.putK {K : PySem.W.Frag} {τ τ' : Tg} {H H' : Hp} {D : Addr} {ks : List (Key × V)} {o : HO} (h : GS K τ τ' H H') (n : H D = none) (e : H' D = some (.dK ks)) : GS K τ τ' H (upd H' D o) :=
  ⟨⟨fun b u q m => by rw [upd_ne (ne_of_none q n)]; exact h.s.fr b u q m, h.s.ag, fun b q => by
    by_cases c : b = D
    · rw [c] at q; exact absurd n q
    · rw [upd_ne c]; exact h.s.al b q⟩, h.k.tr (KT.putK e)⟩
theorem dget_of {H : Hp} {p : Addr} {ks : List (Key × V)} {x : Str} {v : V} (h : H p = some (.dK ks)) (e : valV ks (.inr x) = some v) : DGet H p (.str x) (some v) := by have := DGet.k (k := .inr x) h; rw [e] at this; exact this
def spRegn (K : PySem.W.Frag) : Sp := fun vs H Q _ => ∃ (τ : Tg) (st g p : Addr) (ks : List (Key × V)) (c e k : Int), vs = [.ref st, .ref p, .int e, .int k] ∧ StT τ H st g ∧ At τ H p (.dK ks) (3, 0, 0) ∧ valV ks (.inr "call") = some (.int c) ∧ 0 ≤ c ∧ c + 1 ≤ e ∧ e ≤ 100 ∧ 0 ≤ k ∧ k ≤ 5 ∧
  ∀ (u : V) (s t : Int) (τ' : Tg) (H' : Hp), DT K H' u (regD [s, t, e, 2 * k, 2 * k + 1]) → 0 ≤ s → s < t → t ≤ e → StT τ' H' st g → GS K τ τ' H H' → Q u H'
section
variable {P : Program} {w : World} {K : PySem.W.Frag} {mg : Str → Option Value} {base : Heap} {a : Ad}
theorem ok_law_region (T : Txt w K mg a) : FnOk P w K mg base CX0 2 a.f_law_region a.d_law_region ["state", "shape", "entry", "k"] (spRegn K) := by
  have G_law_take : FnOk P w K mg base CX0 1 _ _ _ _ := ok_takeT T
  refine T.F__law_region.ok sc_law_region (fun vs H Q E h => ?_) (fun cdv A outer s H vs Q E hr h => ?_)
  · obtain ⟨_, _, _, _, _, _, _, _, rfl, _⟩ := h; rfl
  · obtain ⟨τ, st, g, p, ks, c, e, k, rfl, S, hp, vc, c0, c1, e9, k0, k5, q⟩ := h
    refine ⟨_, (C8.pss_cut (ps_set (i := 4) sc_law_region.nd rfl (Or.inl rfl) (pe_call G_law_take (hr.mono (by decide)) rfl T.g__law_take T.k__law_take T.bd__law_take .nil pass0 (pa_cons (pv 0) (pa_cons (pv 2) pa_nil))))
      (C8.pss_cut (ps_set (i := 5) sc_law_region.nd rfl (Or.inl rfl) (pe_op op_add (pe_op op_add (pv 4) pe_int) (pe_call G_law_take (hr.mono (by decide)) rfl T.g__law_take T.k__law_take T.bd__law_take .nil pass0 (pa_cons (pv 0) (pa_cons (pe_op op_sub (pv 2) (pv 4)) pa_nil)))))
      (C8.pss_cut (ps_if (pt_cmpR op_eq (pe_call G_law_take (hr.mono (by decide)) rfl T.g__law_take T.k__law_take T.bd__law_take .nil pass0 (pa_cons (pv 0) (pa_cons pe_int pa_nil))) pe_int (nomark _)) (C8.pss_cut (ps_set (i := 4) sc_law_region.nd rfl (Or.inl rfl) (pe_callB (call_min2 rfl) (by rfl) T.b_min (by decide +kernel) (pa_cons (pv 4) (pa_cons (pe_dget (hu_of hr) (pv 1) pe_str (fun _ _ => rfl)) pa_nil))))
      (pss_one (ps_set (i := 5) sc_law_region.nd rfl (Or.inl rfl) (pe_callB (call_max2 rfl) (by rfl) T.b_max (by decide +kernel) (pa_cons (pv 5) (pa_cons (pe_op op_add (pe_dget (hu_of hr) (pv 1) pe_str (fun _ _ => rfl)) pe_int) pa_nil)))))) pss_nil)
      (pss_one (ps_ret (pe_tup (pa_cons (pv 4) (pa_cons (pv 5) (pa_cons (pv 2) (pa_cons (pe_op op_mul pe_int (pv 3)) (pa_cons (pe_op op_add (pe_op op_mul pe_int (pv 3)) pe_int) pa_nil))))))))))), ?_⟩
    refine ⟨fun σ H' => StT τ H' st g ∧ GS K τ τ H H' ∧ ∃ s : Int, 0 ≤ s ∧ s < e ∧ σ = [some (.ref st), some (.ref p), some (.int e), some (.int k), some (.int s), none], ?_, ?_⟩
    · exact ⟨_, rfl, _, rfl, τ, st, g, e, rfl, S, by omega, by omega, fun v H1 v0 v1 S1 F1 => ⟨S1, F1, v, v0, v1, rfl⟩⟩
    clear S
    rintro σ H1 ⟨S, F, s, s0, s1, rfl⟩
    refine ⟨fun σ H' => StT τ H' st g ∧ GS K τ τ H H' ∧ ∃ t : Int, s < t ∧ t ≤ e ∧ σ = [some (.ref st), some (.ref p), some (.int e), some (.int k), some (.int s), some (.int t)], ?_, ?_⟩
    · exact ⟨_, rfl, _, _, rfl, rfl, _, rfl, _, rfl, _, rfl, _, _, rfl, rfl, τ, st, g, _, rfl, S, by omega, by omega, fun v H2 v0 v1 S2 F2 => ⟨_, _, rfl, rfl, S2, F.tr F2, s + 1 + v, by omega, by omega, rfl⟩⟩
    clear S F
    rintro σ H2 ⟨S, F, t, t0, t1, rfl⟩
    refine ⟨fun σ H' => StT τ H' st g ∧ GS K τ τ H H' ∧ ∃ s t : Int, 0 ≤ s ∧ s < t ∧ t ≤ e ∧ σ = [some (.ref st), some (.ref p), some (.int e), some (.int k), some (.int s), some (.int t)], ?_, ?_⟩
    · refine ⟨_, rfl, τ, st, g, 2, rfl, S, by decide, by decide, fun v H3 v0 v1 S3 F3 => ⟨rfl, _, rfl, ite3 (fun e2 => ?_) (fun e2 => ⟨S3, F.tr F3, s, t, s0, t0, t1, rfl⟩)⟩⟩
      have hp3 := hp.st (F.tr F3).s (by decide)
      refine ⟨fun σ H' => StT τ H' st g ∧ GS K τ τ H H' ∧ σ = [some (.ref st), some (.ref p), some (.int e), some (.int k), some (.int (if c < s then c else s)), some (.int t)], ⟨_, rfl, _, rfl, p, _, rfl, dget_of hp3.1 vc, _, _, rfl, S3, F.tr F3, rfl⟩, ?_⟩
      rintro σ H4 ⟨S4, F4, rfl⟩
      have hp4 := hp.st F4.s (by decide)
      refine ⟨_, rfl, _, rfl, p, _, rfl, dget_of hp4.1 vc, _, _, rfl, rfl, _, _, rfl, S4, F4, _, _, ?_, ?_, ?_, rfl⟩
      · split <;> omega
      · split <;> split <;> omega
      · split <;> omega
    clear S F
    rintro σ H3 ⟨S, F, s, t, s0, t0, t1, rfl⟩
    refine ⟨_, rfl, _, rfl, _, rfl, _, rfl, _, _, rfl, rfl, .inl ⟨by decide, by decide⟩, _, rfl, _, _, rfl, rfl, .inl ⟨by decide, by decide⟩, _, _, rfl, rfl, (by show 5 ≤ sizeLine; decide), fun u nu => ?_⟩
    exact q (.ref u) s t _ _ (.tup (.inl (.inl upd_same)) (.cons (.int _) (.cons (.int _) (.cons (.int _) (.cons (.int _) (.cons (.int _) .nil)))))) s0 t0 t1 (S.new nu (x := (7, 2, 0))) (F.new nu)
end

/-! ### a shape in the heap -/
def RwR (τ : Tg) (H : Hp) (ys : List Addr) (rows : List (Int × Int × Int)) : Prop := ys.length = rows.length ∧ ∀ (k : Nat) (y : Addr) (r : Int × Int × Int), ys[k]? = some y → rows[k]? = some r → At τ H y (.lst [.int r.1, .int r.2.1, .int r.2.2]) (3, 4, 0)
structure ShR (K : PySem.W.Frag) (τ : Tg) (H : Hp) (p : Addr) (s : Shp) : Prop where
  o : ∃ (rw rg od : Addr) (ys : List Addr) (us ws : List V), At τ H p (.dK (sK (1 + (s.bf : Int)) s.bf s.af rw rg s.kd s.nu s.pl od)) (3, 0, 0) ∧ At τ H rw (.lst (ys.map V.ref)) (3, 1, 0) ∧ RwR τ H ys s.rows ∧ At τ H rg (.lst us) (3, 2, 0) ∧ DTs K H us (s.regs.map regD) ∧ At τ H od (.lst ws) (3, 3, 0) ∧ DTs K H ws (s.od.map regD)
theorem RwR.st {τ τ' : Tg} {Z : List Nat} {H H' : Hp} {ys : List Addr} {rows : List (Int × Int × Int)} (h : RwR τ H ys rows) (s : Stp τ τ' Z H H') (n : 3 ∉ Z) : RwR τ' H' ys rows := ⟨h.1, fun k y r a b => (h.2 k y r a b).st s n⟩
theorem RwR.put {τ : Tg} {H : Hp} {ys : List Addr} {rows : List (Int × Int × Int)} {q : Addr} {o : HO} {x : Nat × Nat × Nat} (h : RwR τ H ys rows) (t : τ q = x) (n : (3, 4, 0) ≠ x) : RwR τ (upd H q o) ys rows := ⟨h.1, fun k y r a b => (h.2 k y r a b).put t n⟩
theorem ShR.st {K : PySem.W.Frag} {τ τ' : Tg} {Z : List Nat} {H H' : Hp} {p : Addr} {s : Shp} (h : ShR K τ H p s) (t : Stp τ τ' Z H H') (n : 3 ∉ Z) (k : KT K H H') : ShR K τ' H' p s := by
  obtain ⟨rw, rg, od, ys, us, ws, h1, h2, h3, h4, h5, h6, h7⟩ := h.o
  exact ⟨⟨rw, rg, od, ys, us, ws, h1.st t n, h2.st t n, h3.st t n, h4.st t n, h5.keep k, h6.st t n, h7.keep k⟩⟩
/-- a shape while it is made -/
structure LSh (K : PySem.W.Frag) (τ0 : Tg) (H0 : Hp) (τ : Tg) (H : Hp) (st g p rw rg : Addr) (ks : List (Key × V)) (ys : List Addr) (us : List V) (rows : List (Int × Int × Int)) (regs : List (List Int)) : Prop where
  S : StT τ H st g
  G : GS K τ0 τ H0 H
  np : H0 p = none
  nw : H0 rw = none
  ng : H0 rg = none
  p : At τ H p (.dK ks) (3, 0, 0)
  w : At τ H rw (.lst (ys.map V.ref)) (3, 1, 0)
  wr : RwR τ H ys rows
  g : At τ H rg (.lst us) (3, 2, 0)
  gd : DTs K H us (regs.map regD)
theorem StT.put3 {τ : Tg} {H : Hp} {st g q : Addr} {o : HO} (h : StT τ H st g) (t : (τ q).1 = 3) : StT τ (upd H q o) st g := h.step (Z := [3]) (Stp.refl.put (by rw [t]; simp)) (by simp)
section
variable {K : PySem.W.Frag} {τ0 τ τ' : Tg} {H0 H H' : Hp} {st g p rw rg : Addr} {ks : List (Key × V)} {ys : List Addr} {us : List V} {rows : List (Int × Int × Int)} {regs : List (List Int)}
theorem LSh.gs (h : LSh K τ0 H0 τ H st g p rw rg ks ys us rows regs) (S' : StT τ' H' st g) (G' : GS K τ τ' H H') : LSh K τ0 H0 τ' H' st g p rw rg ks ys us rows regs :=
  ⟨S', h.G.tr G', h.np, h.nw, h.ng, h.p.st G'.s (by simp), h.w.st G'.s (by simp), h.wr.st G'.s (by simp), h.g.st G'.s (by simp), h.gd.keep G'.k⟩
theorem LSh.nw' {q : Addr} {o : HO} {x : Nat × Nat × Nat} (h : LSh K τ0 H0 τ H st g p rw rg ks ys us rows regs) (n : H q = none) : LSh K τ0 H0 (tgN τ q x) (upd H q o) st g p rw rg ks ys us rows regs := h.gs (h.S.new n) (GS.refl.new n)
theorem LSh.putD {ks' : List (Key × V)} (h : LSh K τ0 H0 τ H st g p rw rg ks ys us rows regs) : LSh K τ0 H0 τ (upd H p (.dK ks')) st g p rw rg ks' ys us rows regs :=
  ⟨h.S.put3 (by rw [h.p.2]), h.G.putK h.np h.p.1, h.np, h.nw, h.ng, .set h.p.2, h.w.put h.p.2 (by simp), h.wr.put h.p.2 (by simp), h.g.put h.p.2 (by simp), h.gd.keep (KT.putK h.p.1)⟩
theorem LSh.putG {u : V} {r : List Int} (h : LSh K τ0 H0 τ H st g p rw rg ks ys us rows regs) (d : DT K H u (regD r)) : LSh K τ0 H0 τ (upd H rg (.lst (us ++ [u]))) st g p rw rg ks ys (us ++ [u]) rows (regs ++ [r]) :=
  ⟨h.S.put3 (by rw [h.g.2]), h.G.put h.ng h.g.1, h.np, h.nw, h.ng, h.p.put h.g.2 (by simp), h.w.put h.g.2 (by simp), h.wr.put h.g.2 (by simp), .set h.g.2, by rw [List.map_append]; exact (h.gd.keep (KT.put h.g.1)).app (.cons (d.keep (KT.put h.g.1)) .nil)⟩
theorem LSh.putW {y : Addr} {r : Int × Int × Int} (h : LSh K τ0 H0 τ H st g p rw rg ks ys us rows regs) (d : At τ H y (.lst [.int r.1, .int r.2.1, .int r.2.2]) (3, 4, 0)) : LSh K τ0 H0 τ (upd H rw (.lst (ys.map V.ref ++ [.ref y]))) st g p rw rg ks (ys ++ [y]) us (rows ++ [r]) regs := by
  refine ⟨h.S.put3 (by rw [h.w.2]), h.G.put h.nw h.w.1, h.np, h.nw, h.ng, h.p.put h.w.2 (by simp), ?_, ⟨by simp [h.wr.1], fun k y' r' a b => ?_⟩, h.g.put h.w.2 (by simp), h.gd.keep (KT.put h.w.1)⟩
  · rw [List.map_append]; exact .set h.w.2
  · by_cases hk : k < ys.length
    · rw [List.getElem?_append_left hk] at a
      rw [List.getElem?_append_left (by rw [← h.wr.1]; exact hk)] at b
      exact (h.wr.2 k y' r' a b).put h.w.2 (by simp)
    · have hk2 : k = ys.length := by
        have := (List.getElem?_eq_some_iff.mp a).1
        simp at this; omega
      rw [hk2, List.getElem?_append_right (Nat.le_refl _), Nat.sub_self] at a
      rw [hk2, h.wr.1, List.getElem?_append_right (Nat.le_refl _), Nat.sub_self] at b
      obtain rfl := Option.some.inj a
      obtain rfl := Option.some.inj b
      exact d.put h.w.2 (by simp)
end
theorem LSh.putL {K : PySem.W.Frag} {τ0 τ : Tg} {H0 H : Hp} {st g p rw rg q : Addr} {ks : List (Key × V)} {ys : List Addr} {us l : List V} {rows : List (Int × Int × Int)} {regs : List (List Int)} {o : HO} {x : Nat} (h : LSh K τ0 H0 τ H st g p rw rg ks ys us rows regs) (n : H0 q = none) (e : At τ H q (.lst l) (3, x, 0)) (c : x = 3 ∨ x = 5) : LSh K τ0 H0 τ (upd H q o) st g p rw rg ks ys us rows regs :=
  ⟨h.S.put3 (by rw [e.2]), h.G.put n e.1, h.np, h.nw, h.ng, h.p.put e.2 (by rcases c with rfl | rfl <;> simp), h.w.put e.2 (by rcases c with rfl | rfl <;> simp), h.wr.put e.2 (by rcases c with rfl | rfl <;> simp), h.g.put e.2 (by rcases c with rfl | rfl <;> simp), h.gd.keep (KT.put e.1)⟩
theorem dput_of {H : Hp} {p : Addr} {ks ks' : List (Key × V)} {x : Str} {v : V} (h : H p = some (.dK ks)) (hl : ks.length < sizeLine) (e : putK ks (.inr x) v = ks') : DPut H p (.str x) v (upd H p (.dK ks')) := by have := DPut.k (k := .inr x) (v := v) h hl; rw [e] at this; exact this
theorem DTs.erase {K : PySem.W.Frag} {H : Hp} : ∀ {xs : List V} {ds : List PyData} (i : Nat), DTs K H xs ds → DTs K H (xs.eraseIdx i) (ds.eraseIdx i)
  | _, _, _, .nil => .nil
  | _, _, 0, .cons _ h => h
  | _, _, i + 1, .cons d h => .cons d (DTs.erase i h)
theorem map_erase {α β : Type} (f : α → β) : ∀ (l : List α) (i : Nat), (l.map f).eraseIdx i = (l.eraseIdx i).map f
  | [], _ => rfl
  | _ :: _, 0 => rfl
  | x :: l, i + 1 => by
    show f x :: (l.map f).eraseIdx i = f x :: (l.eraseIdx i).map f
    rw [map_erase f l i]
theorem seq_natJ {k n : Nat} (h : k < n) : seqIndex? (k : Int) n = some k := by
  unfold seqIndex?
  simp
  omega
/-- the regions and rows of the first k -/
structure RRok (bf af : Nat) (k : Nat) (rows : List (Int × Int × Int)) (regs : List (List Int)) : Prop where
  l1 : rows.length = k
  l2 : regs.length = k
  rg : ∀ (j : Nat) (q : List Int), regs[j]? = some q → ∃ x y : Int, q = [x, y, ((bf + af + 3 + 3 * j : Nat) : Int), 2 * (j : Int), 2 * (j : Int) + 1] ∧ y ≤ ((bf + af + 3 + 3 * j : Nat) : Int)
  rw : ∀ r ∈ rows, (0 ≤ r.1 ∧ r.1 < 4) ∧ (0 ≤ r.2.1 ∧ r.2.1 < 5) ∧ (0 ≤ r.2.2 ∧ r.2.2 < 4)
def spShp (K : PySem.W.Frag) : Sp := fun vs H Q _ => ∃ (τ : Tg) (st g : Addr) (last : Bool), vs = [.ref st, .bl last] ∧ StT τ H st g ∧
  ∀ (p : Addr) (s : Shp) (τ' : Tg) (H' : Hp), s.Ok → (s.kd = 0 → last = false) → (last = false → s.kd = 0) → ShR K τ' H' p s → StT τ' H' st g → GS K τ τ' H H' → Q (.ref p) H'
section
variable {P : Program} {w : World} {K : PySem.W.Frag} {mg : Str → Option Value} {base : Heap} {a : Ad}
theorem ok_law_shape (T : Txt w K mg a) : FnOk P w K mg base CX0 3 a.f_law_shape a.d_law_shape ["state", "last"] (spShp K) := by
  have G_law_take : FnOk P w K mg base CX0 1 _ _ _ _ := ok_takeT T
  have G_law_region : FnOk P w K mg base CX0 2 _ _ _ _ := ok_law_region T
  refine T.F__law_shape.ok sc_law_shape (fun vs H Q E h => ?_) (fun cdv A outer s H vs Q E hr h => ?_)
  · obtain ⟨_, _, _, _, rfl, _⟩ := h; rfl
  · obtain ⟨τ, st, g, last, rfl, S, q⟩ := h
    refine ⟨_, (C8.pss_cut (ps_set (i := 2) sc_law_shape.nd rfl (Or.inl rfl) (pe_op op_add pe_int (pe_call G_law_take (hr.mono (by decide)) rfl T.g__law_take T.k__law_take T.bd__law_take .nil pass0 (pa_cons (pv 0) (pa_cons pe_int pa_nil)))))
      (C8.pss_cut (ps_set (i := 3) sc_law_shape.nd rfl (Or.inl rfl) (pe_disp (pps_cons pe_str (pe_op op_add pe_int (pv 2)) (pps_cons pe_str (pv 2) (pps_cons pe_str (pe_call G_law_take (hr.mono (by decide)) rfl T.g__law_take T.k__law_take T.bd__law_take .nil pass0 (pa_cons (pv 0) (pa_cons pe_int pa_nil))) (pps_cons pe_str (pe_lst pa_nil) (pps_cons pe_str (pe_lst pa_nil) pps_nil))))) (by rfl) (by rfl) (fun z => by cases z) (by decide)))
      (C8.pss_cut (ps_set (i := 4) sc_law_shape.nd rfl (Or.inl rfl) (pe_op op_add (pe_op op_add (pe_op op_add (pe_dget (hu_of hr) (pv 3) pe_str (fun _ _ => rfl)) pe_int) (pe_dget (hu_of hr) (pv 3) pe_str (fun _ _ => rfl))) pe_int))
      (C8.pss_cut (ps_for PassesOwn.never rfl (pi_range1 rfl T.b_range (pa_cons (pe_call G_law_take (hr.mono (by decide)) rfl T.g__law_take T.k__law_take T.bd__law_take .nil pass0 (pa_cons (pv 0) (pa_cons pe_int pa_nil))) pa_nil)) (pg_name (i := 5) sc_law_shape.nd rfl (Or.inl rfl)) (C8.pss_cut (ps_expr (pe_bm PySem.F.plainAttrs_list PySem.F.slot_list_append PySem.F.type_list_append mt_append (pe_dget (hu_of hr) (pv 3) pe_str (fun _ _ => rfl)) (pa_cons (pe_call G_law_region (hr.mono (by decide)) rfl T.g__law_region T.k__law_region T.bd__law_region .nil pass0 (pa_cons (pv 0) (pa_cons (pv 3) (pa_cons (pv 4) (pa_cons (pv 5) pa_nil))))) pa_nil)))
      (C8.pss_cut (ps_expr (pe_bm PySem.F.plainAttrs_list PySem.F.slot_list_append PySem.F.type_list_append mt_append (pe_dget (hu_of hr) (pv 3) pe_str (fun _ _ => rfl)) (pa_cons (pe_lst (pa_cons (pe_call G_law_take (hr.mono (by decide)) rfl T.g__law_take T.k__law_take T.bd__law_take .nil pass0 (pa_cons (pv 0) (pa_cons pe_int pa_nil))) (pa_cons (pe_call G_law_take (hr.mono (by decide)) rfl T.g__law_take T.k__law_take T.bd__law_take .nil pass0 (pa_cons (pv 0) (pa_cons pe_int pa_nil))) (pa_cons (pe_call G_law_take (hr.mono (by decide)) rfl T.g__law_take T.k__law_take T.bd__law_take .nil pass0 (pa_cons (pv 0) (pa_cons pe_int pa_nil))) pa_nil)))) pa_nil)))
      (pss_one (ps_set (i := 4) sc_law_shape.nd rfl (Or.inl rfl) (pe_op op_add (pv 4) pe_int))))))
      (C8.pss_cut (ps_dput (hu_of hr) (pv 3) pe_str pe_int rfl)
      (C8.pss_cut (ps_if (pt_val (pv 1)) (pss_one (ps_dput (hu_of hr) (pv 3) pe_str (pe_op op_add pe_int (pe_call G_law_take (hr.mono (by decide)) rfl T.g__law_take T.k__law_take T.bd__law_take .nil pass0 (pa_cons (pv 0) (pa_cons pe_int pa_nil)))) rfl)) pss_nil)
      (C8.pss_cut (ps_dput (hu_of hr) (pv 3) pe_str (pe_call G_law_take (hr.mono (by decide)) rfl T.g__law_take T.k__law_take T.bd__law_take .nil pass0 (pa_cons (pv 0) (pa_cons pe_int pa_nil))) rfl)
      (C8.pss_cut (ps_dput (hu_of hr) (pv 3) pe_str (pe_call G_law_take (hr.mono (by decide)) rfl T.g__law_take T.k__law_take T.bd__law_take .nil pass0 (pa_cons (pv 0) (pa_cons pe_int pa_nil))) rfl)
      (C8.pss_cut (ps_set (i := 6) sc_law_shape.nd rfl (Or.inl rfl) (pe_callTy call_list_of (by rfl) T.b_list (by decide +kernel) (pa_cons (pe_dget (hu_of hr) (pv 3) pe_str (fun _ _ => rfl)) pa_nil)))
      (C8.pss_cut (ps_dput (hu_of hr) (pv 3) pe_str (pe_lst pa_nil) rfl)
      (C8.pss_cut (ps_for PassesOwn.never rfl (pi_range1 rfl T.b_range (pa_cons (pe_callB call_len_seq (by rfl) T.b_len (by decide +kernel) (pa_cons (pv 6) pa_nil)) pa_nil)) (pg_name (i := 5) sc_law_shape.nd rfl (Or.inl rfl)) (pss_one (ps_expr (pe_bm PySem.F.plainAttrs_list PySem.F.slot_list_append PySem.F.type_list_append mt_append (pe_dget (hu_of hr) (pv 3) pe_str (fun _ _ => rfl)) (pa_cons (pe_bm PySem.F.plainAttrs_list PySem.F.slot_list_pop PySem.F.type_list_pop mt_popAt (pv 6) (pa_cons (pe_call G_law_take (hr.mono (by decide)) rfl T.g__law_take T.k__law_take T.bd__law_take .nil pass0 (pa_cons (pv 0) (pa_cons (pe_callB call_len_seq (by rfl) T.b_len (by decide +kernel) (pa_cons (pv 6) pa_nil)) pa_nil))) pa_nil)) pa_nil)))))
      (pss_one (ps_ret (pv 3)))))))))))))), ?_⟩
    have vl : ∀ b : Bool, V.bl b = V.bl b := fun _ => rfl
    -- before
    refine ⟨fun σ H' => StT τ H' st g ∧ GS K τ τ H H' ∧ ∃ bf : Nat, 1 ≤ bf ∧ bf ≤ 4 ∧ σ = [some (.ref st), some (.bl last), some (.int (bf : Int)), none, none, none, none], ?_, ?_⟩
    · refine ⟨_, rfl, τ, st, g, 4, rfl, S, by decide, by decide, fun v H1 v0 v1 S1 F1 => ⟨_, _, rfl, rfl, S1, F1, (1 + v).toNat, by omega, by omega, ?_⟩⟩
      rw [show ((1 + v).toNat : Int) = 1 + v by omega]; rfl
    clear S
    rintro σ H1 ⟨S, F, bf, b1, b4, rfl⟩
    -- the dictionary
    refine ⟨fun σ H' => ∃ (τ' : Tg) (p rw rg : Addr) (af : Nat), af ≤ 2 ∧ LSh K τ H τ' H' st g p rw rg [((.inr "call" : Key), .int (1 + (bf : Int))), ((.inr "before" : Key), .int bf), ((.inr "after" : Key), .int af), ((.inr "rows" : Key), .ref rw), ((.inr "regions" : Key), .ref rg)] [] [] [] [] ∧ σ = [some (.ref st), some (.bl last), some (.int (bf : Int)), some (.ref p), none, none, none], ?_, ?_⟩
    · intro p np
      have S1 := S.new np (x := (3, 0, 0)) (o := .dK [])
      have F1 := F.new np (x := (3, 0, 0)) (o := .dK [])
      have ap : At (tgN τ p (3, 0, 0)) (upd H1 p (.dK [])) p (.dK []) (3, 0, 0) := .mk
      have np0 := F.free np
      generalize upd H1 p (.dK []) = H2 at S1 F1 ap
      generalize tgN τ p (3, 0, 0) = τ1 at S1 F1 ap
      refine ⟨_, rfl, _, _, rfl, rfl, _, rfl, _, rfl, τ1, st, g, 3, rfl, S1, by decide, by decide, fun v H3 v0 v1 S3 F3 => ?_⟩
      refine ⟨by show 0 ≤ sizeLine; decide, fun rw nrw => ⟨by show 0 ≤ sizeLine; decide, fun rg nrg => ?_⟩⟩
      have ap3 := ap.st F3.s (by simp)
      have F13 := F1.tr F3
      have nrw0 := F13.free nrw
      have S4 := S3.new nrw (x := (3, 1, 0)) (o := .lst [])
      have F4 := F13.new nrw (x := (3, 1, 0)) (o := .lst [])
      have aw4 : At (tgN τ1 rw (3, 1, 0)) (upd H3 rw (.lst [])) rw (.lst []) (3, 1, 0) := .mk
      have ap4 : At (tgN τ1 rw (3, 1, 0)) (upd H3 rw (.lst [])) p _ _ := ap3.new nrw
      generalize upd H3 rw (.lst []) = H4 at S4 F4 aw4 ap4 nrg ⊢
      generalize tgN τ1 rw (3, 1, 0) = τ4 at S4 F4 aw4 ap4
      have nrg0 := F4.free nrg
      have S5 := S4.new nrg (x := (3, 2, 0)) (o := .lst [])
      have F5 := F4.new nrg (x := (3, 2, 0)) (o := .lst [])
      have ag5 : At (tgN τ4 rg (3, 2, 0)) (upd H4 rg (.lst [])) rg (.lst []) (3, 2, 0) := .mk
      have ap5 : At (tgN τ4 rg (3, 2, 0)) (upd H4 rg (.lst [])) p _ _ := ap4.new nrg
      have aw5 : At (tgN τ4 rg (3, 2, 0)) (upd H4 rg (.lst [])) rw _ _ := aw4.new nrg
      generalize upd H4 rg (.lst []) = H5 at S5 F5 ag5 ap5 aw5 ⊢
      generalize tgN τ4 rg (3, 2, 0) = τ5 at S5 F5 ag5 ap5 aw5
      have L : LSh K τ H τ5 H5 st g p rw rg [] [] [] [] [] := ⟨S5, F5, np0, nrw0, nrg0, ap5, aw5, ⟨rfl, fun k y r e _ => by cases e⟩, ag5, .nil⟩
      refine ⟨ap5.1, [((.inr "call" : Key), .int (1 + (bf : Int))), ((.inr "before" : Key), .int bf), ((.inr "after" : Key), .int v), ((.inr "rows" : Key), .ref rw), ((.inr "regions" : Key), .ref rg)], rfl, (by show 5 ≤ 15; decide), ?_⟩
      rw [mk5]
      obtain ⟨af, rfl⟩ := Int.eq_ofNat_of_zero_le v0
      exact ⟨τ5, p, rw, rg, af, by omega, L.putD, rfl⟩
    clear S F
    rintro σ H2 ⟨τ2, p, rw, rg, af, a2, L, rfl⟩
    -- size
    refine ⟨fun σ H' => ∃ τ' : Tg, LSh K τ H τ' H' st g p rw rg [((.inr "call" : Key), .int (1 + (bf : Int))), ((.inr "before" : Key), .int bf), ((.inr "after" : Key), .int af), ((.inr "rows" : Key), .ref rw), ((.inr "regions" : Key), .ref rg)] [] [] [] [] ∧ σ = [some (.ref st), some (.bl last), some (.int (bf : Int)), some (.ref p), some (.int ((bf + af + 3 : Nat) : Int)), none, none], ?_, ?_⟩
    · refine ⟨_, rfl, p, _, rfl, gg5_call L.p.1, _, _, rfl, rfl, _, rfl, p, _, rfl, gg5_after L.p.1, _, _, rfl, rfl, _, _, rfl, rfl, τ2, L, ?_⟩
      rw [show ((bf + af + 3 : Nat) : Int) = 1 + (bf : Int) + 1 + (af : Int) + 1 by omega]; rfl
    clear L τ2
    rintro σ H2 ⟨τ2, L, rfl⟩
    -- the regions
    refine ⟨fun σ H' => ∃ (τ' : Tg) (k : Nat) (x5 : Option V) (x4 : Option V) (ys : List Addr) (us : List V) (rows : List (Int × Int × Int)) (regs : List (List Int)), k ≤ 5 ∧ RRok bf af k rows regs ∧ LSh K τ H τ' H' st g p rw rg [((.inr "call" : Key), .int (1 + (bf : Int))), ((.inr "before" : Key), .int bf), ((.inr "after" : Key), .int af), ((.inr "rows" : Key), .ref rw), ((.inr "regions" : Key), .ref rg)] ys us rows regs ∧ σ = [some (.ref st), some (.bl last), some (.int (bf : Int)), some (.ref p), x4, x5, none], ?_, ?_⟩
    · refine ⟨_, rfl, τ2, st, g, 6, rfl, L.S, by decide, by decide, fun v H3 v0 v1 S3 F3 => ⟨v, rfl, by omega, by omega, ?_⟩⟩
      refine for_range (lo := 0) (n := v.toNat) (fun k σ H' => ∃ (τ' : Tg) (x5 : Option V) (ys : List Addr) (us : List V) (rows : List (Int × Int × Int)) (regs : List (List Int)), RRok bf af k rows regs ∧ LSh K τ H τ' H' st g p rw rg [((.inr "call" : Key), .int (1 + (bf : Int))), ((.inr "before" : Key), .int bf), ((.inr "after" : Key), .int af), ((.inr "rows" : Key), .ref rw), ((.inr "regions" : Key), .ref rg)] ys us rows regs ∧ σ = [some (.ref st), some (.bl last), some (.int (bf : Int)), some (.ref p), some (.int ((bf + af + 3 + 3 * k : Nat) : Int)), x5, none])
        ⟨τ2, none, [], [], [], [], ⟨rfl, rfl, (fun j q e => by cases e), fun r m => by cases m⟩, L.gs S3 F3, rfl⟩ ?_ ?_
      · rintro k σ H4 hk ⟨τ4, x5, ys, us, rows, regs, R, L4, rfl⟩
        rw [show (0 : Int) + (k : Nat) = (k : Int) by omega]
        refine ⟨fun σ H' => ∃ (τ' : Tg) (us' : List V) (r : List Int), (∃ x y : Int, r = [x, y, ((bf + af + 3 + 3 * k : Nat) : Int), 2 * (k : Int), 2 * (k : Int) + 1] ∧ y ≤ ((bf + af + 3 + 3 * k : Nat) : Int)) ∧ LSh K τ H τ' H' st g p rw rg [((.inr "call" : Key), .int (1 + (bf : Int))), ((.inr "before" : Key), .int bf), ((.inr "after" : Key), .int af), ((.inr "rows" : Key), .ref rw), ((.inr "regions" : Key), .ref rg)] ys us' rows (regs ++ [r]) ∧ σ = [some (.ref st), some (.bl last), some (.int (bf : Int)), some (.ref p), some (.int ((bf + af + 3 + 3 * k : Nat) : Int)), some (.int (k : Int)), none], ?_, ?_⟩
        · refine ⟨_, rfl, p, _, rfl, gg5_regions L4.p.1, .inl ⟨rfl, _, SqL.of L4.g.1⟩, ?_⟩
          refine ⟨_, rfl, _, rfl, _, rfl, _, rfl, τ4, st, g, p, _, _, _, _, rfl, L4.S, L4.p, gv5_call, by omega, by omega, by omega, by omega, by omega, fun u x y τ5 H5 d _ _ hy S5 F5 => ?_⟩
          have L5 := L4.gs S5 F5
          refine ⟨rg, us, u, rfl, rfl, L5.g.1, ?_, τ5, us ++ [u], _, ⟨x, y, rfl, hy⟩, L5.putG d, rfl⟩
          have := DTs.len L5.gd
          rw [List.length_map, R.l2] at this
          rw [this]; exact small1000 (by omega)
        rintro σ H5 ⟨τ5, us', r, hr5, L5, rfl⟩
        refine ⟨fun σ H' => ∃ (τ' : Tg) (ys' : List Addr) (us' : List V) (z : Int × Int × Int), ((0 ≤ z.1 ∧ z.1 < 4) ∧ (0 ≤ z.2.1 ∧ z.2.1 < 5) ∧ (0 ≤ z.2.2 ∧ z.2.2 < 4)) ∧ LSh K τ H τ' H' st g p rw rg [((.inr "call" : Key), .int (1 + (bf : Int))), ((.inr "before" : Key), .int bf), ((.inr "after" : Key), .int af), ((.inr "rows" : Key), .ref rw), ((.inr "regions" : Key), .ref rg)] ys' us' (rows ++ [z]) (regs ++ [r]) ∧ σ = [some (.ref st), some (.bl last), some (.int (bf : Int)), some (.ref p), some (.int ((bf + af + 3 + 3 * k : Nat) : Int)), some (.int (k : Int)), none], ?_, ?_⟩
        · refine ⟨_, rfl, p, _, rfl, gg5_rows L5.p.1, .inl ⟨rfl, _, SqL.of L5.w.1⟩, ?_⟩
          refine ⟨_, rfl, τ5, st, g, 4, rfl, L5.S, by decide, by decide, fun v1 H6 a1 a2' S6 F6 => ⟨_, rfl, τ5, st, g, 5, rfl, S6, by decide, by decide, fun v2 H7 a3 a4 S7 F7 => ⟨_, rfl, τ5, st, g, 4, rfl, S7, by decide, by decide, fun v3 H8 a5 a6 S8 F8 => ?_⟩⟩⟩
          have L8 := ((L5.gs S6 F6).gs S7 F7).gs S8 F8
          refine ⟨by show 3 ≤ sizeLine; decide, fun y ny => ?_⟩
          have L9 := L8.nw' ny (x := (3, 4, 0)) (o := .lst [V.int v1, V.int v2, V.int v3])
          refine ⟨rw, _, _, rfl, rfl, L9.w.1, ?_, _, ys ++ [y], us', (v1, v2, v3), ⟨⟨a1, a2'⟩, ⟨a3, a4⟩, a5, a6⟩, L9.putW (r := (v1, v2, v3)) .mk, rfl⟩
          rw [List.length_map, L8.wr.1, R.l1]; exact small1000 (by omega)
        rintro σ H6 ⟨τ6, ys', us6, z, hz, L6, rfl⟩
        refine ⟨_, rfl, _, _, rfl, rfl, τ6, some (.int (k : Int)), ys', us6, rows ++ [z], regs ++ [r], ⟨by simp [R.l1], by simp [R.l2], fun j q e => ?_, fun x m => ?_⟩, L6, ?_⟩
        · by_cases hj : j < regs.length
          · rw [List.getElem?_append_left hj] at e
            exact R.rg j q e
          · have hj2 : j = regs.length := by
              have := (List.getElem?_eq_some_iff.mp e).1
              simp at this; omega
            rw [hj2, List.getElem?_append_right (Nat.le_refl _), Nat.sub_self] at e
            obtain rfl := Option.some.inj e
            rw [hj2, R.l2]; exact hr5
        · rcases List.mem_append.mp m with m | m
          · exact R.rw x m
          · rw [List.mem_singleton.mp m]; exact hz
        · rw [show ((bf + af + 3 + 3 * (k + 1) : Nat) : Int) = ((bf + af + 3 + 3 * k : Nat) : Int) + 3 by omega]; rfl
      · rintro σ H4 ⟨τ4, x5, ys, us, rows, regs, R, L4, rfl⟩
        exact ⟨τ4, _, _, _, ys, us, rows, regs, by omega, R, L4, rfl⟩
    clear L τ2
    rintro σ H2 ⟨τ2, k, x5, x4, ys, us, rows, regs, k5, R, L, rfl⟩
    -- the kind
    refine ⟨fun σ H' => ∃ (kd : Int), kd = 0 ∧ LSh K τ H τ2 H' st g p rw rg [((.inr "call" : Key), .int (1 + (bf : Int))), ((.inr "before" : Key), .int bf), ((.inr "after" : Key), .int af), ((.inr "rows" : Key), .ref rw), ((.inr "regions" : Key), .ref rg), ((.inr "kind" : Key), .int kd)] ys us rows regs ∧ σ = [some (.ref st), some (.bl last), some (.int (bf : Int)), some (.ref p), x4, x5, none], ?_, ?_⟩
    · exact ⟨_, rfl, p, _, rfl, dput_of L.p.1 (by show 5 < sizeLine; decide) pk6, 0, rfl, L.putD, rfl⟩
    clear L
    rintro σ H2 ⟨kd0, rfl, L, rfl⟩
    refine ⟨fun σ H' => ∃ (τ' : Tg) (kd : Int), (0 ≤ kd ∧ kd < 6) ∧ (kd = 0 → last = false) ∧ (last = false → kd = 0) ∧ LSh K τ H τ' H' st g p rw rg [((.inr "call" : Key), .int (1 + (bf : Int))), ((.inr "before" : Key), .int bf), ((.inr "after" : Key), .int af), ((.inr "rows" : Key), .ref rw), ((.inr "regions" : Key), .ref rg), ((.inr "kind" : Key), .int kd)] ys us rows regs ∧ σ = [some (.ref st), some (.bl last), some (.int (bf : Int)), some (.ref p), x4, x5, none], ?_, ?_⟩
    · cases last with
      | false => exact ⟨_, rfl, _, rfl, iteF ⟨τ2, 0, ⟨by decide, by decide⟩, fun _ => rfl, fun _ => rfl, L, rfl⟩⟩
      | true =>
        refine ⟨_, rfl, _, rfl, iteT ?_⟩
        refine ⟨_, rfl, τ2, st, g, 5, rfl, L.S, by decide, by decide, fun v H3 v0 v1 S3 F3 => ?_⟩
        have L3 := L.gs S3 F3
        exact ⟨_, _, rfl, rfl, _, rfl, p, _, rfl, dput_of L3.p.1 (by show 6 < sizeLine; decide) pkk, τ2, 1 + v, ⟨by omega, by omega⟩, (fun h => by omega), (fun h => by cases h), L3.putD, rfl⟩
    clear L τ2
    rintro σ H2 ⟨τ2, kd, kd6, kd1, kd2, L, rfl⟩
    -- number and place
    refine ⟨fun σ H' => ∃ (τ' : Tg) (nu : Int), (0 ≤ nu ∧ nu < 5) ∧ LSh K τ H τ' H' st g p rw rg [((.inr "call" : Key), .int (1 + (bf : Int))), ((.inr "before" : Key), .int bf), ((.inr "after" : Key), .int af), ((.inr "rows" : Key), .ref rw), ((.inr "regions" : Key), .ref rg), ((.inr "kind" : Key), .int kd), ((.inr "number" : Key), .int nu)] ys us rows regs ∧ σ = [some (.ref st), some (.bl last), some (.int (bf : Int)), some (.ref p), x4, x5, none], ?_, ?_⟩
    · refine ⟨_, rfl, τ2, st, g, 5, rfl, L.S, by decide, by decide, fun v H3 v0 v1 S3 F3 => ?_⟩
      have L3 := L.gs S3 F3
      exact ⟨_, rfl, p, _, rfl, dput_of L3.p.1 (by show 6 < sizeLine; decide) pk7, τ2, v, ⟨v0, v1⟩, L3.putD, rfl⟩
    clear L τ2
    rintro σ H2 ⟨τ2, nu, nu5, L, rfl⟩
    refine ⟨fun σ H' => ∃ (τ' : Tg) (pl : Int), (0 ≤ pl ∧ pl < 4) ∧ LSh K τ H τ' H' st g p rw rg [((.inr "call" : Key), .int (1 + (bf : Int))), ((.inr "before" : Key), .int bf), ((.inr "after" : Key), .int af), ((.inr "rows" : Key), .ref rw), ((.inr "regions" : Key), .ref rg), ((.inr "kind" : Key), .int kd), ((.inr "number" : Key), .int nu), ((.inr "place" : Key), .int pl)] ys us rows regs ∧ σ = [some (.ref st), some (.bl last), some (.int (bf : Int)), some (.ref p), x4, x5, none], ?_, ?_⟩
    · refine ⟨_, rfl, τ2, st, g, 4, rfl, L.S, by decide, by decide, fun v H3 v0 v1 S3 F3 => ?_⟩
      have L3 := L.gs S3 F3
      exact ⟨_, rfl, p, _, rfl, dput_of L3.p.1 (by show 7 < sizeLine; decide) pk8, τ2, v, ⟨v0, v1⟩, L3.putD, rfl⟩
    clear L τ2
    rintro σ H2 ⟨τ2, pl, pl4, L, rfl⟩
    -- the order
    refine ⟨fun σ H' => ∃ (τ' : Tg) (lo : Addr), H lo = none ∧ At τ' H' lo (.lst us) (3, 5, 0) ∧ LSh K τ H τ' H' st g p rw rg [((.inr "call" : Key), .int (1 + (bf : Int))), ((.inr "before" : Key), .int bf), ((.inr "after" : Key), .int af), ((.inr "rows" : Key), .ref rw), ((.inr "regions" : Key), .ref rg), ((.inr "kind" : Key), .int kd), ((.inr "number" : Key), .int nu), ((.inr "place" : Key), .int pl)] ys us rows regs ∧ σ = [some (.ref st), some (.bl last), some (.int (bf : Int)), some (.ref p), x4, x5, some (.ref lo)], ?_, ?_⟩
    · refine ⟨_, rfl, p, _, rfl, gg8_regions L.p.1, rg, us, rfl, .inl (SqL.of L.g.1), fun lo nlo => ?_⟩
      exact ⟨_, lo, L.G.free nlo, .mk, L.nw' nlo, rfl⟩
    clear L τ2
    rintro σ H2 ⟨τ2, lo, nlo, alo, L, rfl⟩
    refine ⟨fun σ H' => ∃ (τ' : Tg) (od : Addr), H od = none ∧ At τ' H' lo (.lst us) (3, 5, 0) ∧ At τ' H' od (.lst []) (3, 3, 0) ∧ LSh K τ H τ' H' st g p rw rg (sK (1 + (bf : Int)) bf af rw rg kd nu pl od) ys us rows regs ∧ σ = [some (.ref st), some (.bl last), some (.int (bf : Int)), some (.ref p), x4, x5, some (.ref lo)], ?_, ?_⟩
    · refine ⟨by show 0 ≤ sizeLine; decide, fun od nod => ?_⟩
      have L3 := L.nw' nod (x := (3, 3, 0)) (o := .lst [])
      have a3 := alo.new nod (y := (3, 3, 0)) (u := .lst [])
      exact ⟨_, rfl, p, _, rfl, dput_of L3.p.1 (by show 8 < sizeLine; decide) pk9, _, od, L.G.free nod, a3.put L3.p.2 (by simp), At.put .mk L3.p.2 (by simp), L3.putD, rfl⟩
    clear L τ2 alo
    rintro σ H2 ⟨τ2, od, nod, alo, aod, L, rfl⟩
    refine ⟨fun σ H' => ∃ (τ' : Tg) (ws : List V) (o : List (List Int)) (y5 : Option V), (∀ x ∈ o, x ∈ regs) ∧ DTs K H' ws (o.map regD) ∧ At τ' H' od (.lst ws) (3, 3, 0) ∧ LSh K τ H τ' H' st g p rw rg (sK (1 + (bf : Int)) bf af rw rg kd nu pl od) ys us rows regs ∧ σ = [some (.ref st), some (.bl last), some (.int (bf : Int)), some (.ref p), x4, y5, some (.ref lo)], ?_, ?_⟩
    · have hul : us.length = regs.length := by have := DTs.len L.gd; rw [List.length_map] at this; exact this
      have hr5 : regs.length ≤ 5 := by rw [R.l2]; exact k5
      refine ⟨_, rfl, lo, us, rfl, .inl (SqL.of alo.1), _, rfl, by omega, by omega, ?_⟩
      refine for_range (lo := 0) (n := (us.length : Int).toNat) (fun j σ H' => ∃ (τ' : Tg) (xs ws : List V) (re o : List (List Int)) (y5 : Option V), xs.length + j = us.length ∧ ws.length = j ∧ (∀ x ∈ re, x ∈ regs) ∧ (∀ x ∈ o, x ∈ regs) ∧ DTs K H' xs (re.map regD) ∧ DTs K H' ws (o.map regD) ∧ At τ' H' lo (.lst xs) (3, 5, 0) ∧ At τ' H' od (.lst ws) (3, 3, 0) ∧ LSh K τ H τ' H' st g p rw rg (sK (1 + (bf : Int)) bf af rw rg kd nu pl od) ys us rows regs ∧ σ = [some (.ref st), some (.bl last), some (.int (bf : Int)), some (.ref p), x4, y5, some (.ref lo)])
        ⟨τ2, us, [], regs, [], x5, rfl, rfl, fun x h => h, fun x h => (List.not_mem_nil h).elim, L.gd, .nil, alo, aod, L, rfl⟩ ?_ ?_
      · rintro j σ H3 hj ⟨τ3, xs, ws, re, o, y5, lx, lw, hre, ho, dx, dw, a3, b3, L3, rfl⟩
        have hxl : xs.length = re.length := by have := DTs.len dx; rw [List.length_map] at this; exact this
        refine ⟨_, rfl, p, _, rfl, sg_order L3.p.1, .inl ⟨rfl, _, SqL.of b3.1⟩, _, rfl, .inl ⟨rfl, _, SqL.of a3.1⟩, _, rfl, _, rfl, lo, xs, rfl, .inl (SqL.of a3.1), τ3, st, g, _, rfl, L3.S, by omega, by omega, fun v H4 v0 v1 S4 F4 => ?_⟩
        obtain ⟨i, rfl⟩ := Int.eq_ofNat_of_zero_le v0
        have hi : i < xs.length := by omega
        have hi2 : i < re.length := by omega
        have L4 := L3.gs S4 F4
        have a4 := a3.st F4.s (by simp)
        have b4 := b3.st F4.s (by simp)
        have dx4 := dx.keep F4.k
        have dw4 := dw.keep F4.k
        obtain ⟨y, ey, dy⟩ := dx4.it i (d := regD re[i]) (by rw [List.getElem?_map, List.getElem?_eq_getElem hi2]; rfl)
        have ey2 : xs[i]? = some xs[i] := List.getElem?_eq_getElem hi
        obtain rfl := Option.some.inj ((atI_nat ey2).symm.trans ey)
        refine ⟨lo, xs, (i : Int), i, xs[i], rfl, rfl, a4.1, by omega, by omega, seq_natJ hi, ey2, ?_⟩
        have L5 := L4.putL (o := .lst (xs.eraseIdx i)) nlo a4 (.inr rfl)
        have kt : KT K H4 (upd H4 lo (.lst (xs.eraseIdx i))) := KT.put a4.1
        have a5 : At τ3 (upd H4 lo (.lst (xs.eraseIdx i))) lo (.lst (xs.eraseIdx i)) (3, 5, 0) := .set a4.2
        have b5 := b4.put (u := .lst (xs.eraseIdx i)) a4.2 (by simp)
        have dw5 := dw4.keep kt
        have dx5 := DTs.erase i (dx4.keep kt)
        rw [map_erase] at dx5
        have dy5 := dy.keep kt
        generalize upd H4 lo (.lst (xs.eraseIdx i)) = H5 at L5 a5 b5 dw5 dx5 dy5
        refine ⟨od, ws, xs[i], rfl, rfl, b5.1, small1000 (by omega), τ3, xs.eraseIdx i, ws ++ [xs[i]], re.eraseIdx i, o ++ [re[i]], _, ?_, by simp [lw], fun x h => hre x (List.mem_of_mem_eraseIdx h), fun x h => ?_, ?_, ?_, a5.put b5.2 (by simp), .set b5.2, L5.putL nod b5 (.inl rfl), rfl⟩
        · rw [List.length_eraseIdx, if_pos hi]; omega
        · rcases List.mem_append.mp h with h | h
          · exact ho x h
          · rw [List.mem_singleton.mp h]; exact hre _ (List.getElem_mem hi2)
        · exact dx5.keep (KT.put b5.1)
        · rw [List.map_append]; exact (dw5.keep (KT.put b5.1)).app (.cons (dy5.keep (KT.put b5.1)) .nil)
      · rintro σ H3 ⟨τ3, xs, ws, re, o, y5, lx, lw, hre, ho, dx, dw, a3, b3, L3, rfl⟩
        exact ⟨τ3, ws, o, y5, ho, dw, b3, L3, rfl⟩
    clear L τ2 alo aod
    rintro σ H2 ⟨τ2, ws, o, y5, ho, dw, aod, L, rfl⟩
    refine ⟨_, rfl, q p ⟨bf, af, rows, regs, kd, nu, pl, o⟩ τ2 H2 ⟨b1, b4, a2, by rw [R.l1, R.l2], by rw [R.l1]; exact k5, R.rg, R.rw, ho, kd6, nu5, pl4⟩ kd1 kd2 ⟨⟨rw, rg, od, ys, us, ws, L.p, L.w, L.wr, L.g, L.gd, aod, dw⟩⟩ L.S L.G⟩
end

/-! ### the code of a unit -/
theorem idx_first {x : List Int} : ∀ (l : List (List Int)) (m : Nat), m < l.idxOf x → l[m]? ≠ some x
  | [], m, h => by simp at h
  | b :: l, m, h => by
    rw [List.idxOf_cons] at h
    by_cases e : b = x
    · rw [e] at h; simp at h
    · rw [beq_false_of_ne e] at h
      cases m with
      | zero => intro c; exact e (Option.some.inj c)
      | succ m => exact idx_first l m (by simpa using h)
theorem u65 {k : Nat} {A : Around} (r : Room k A) : A.units + 65 < cLine := by have := r.un; omega
def spRsg (K : PySem.W.Frag) : Sp := fun vs H Q _ => ∃ (τ : Tg) (p : Addr) (s : Shp) (m : Nat), vs = [.ref p, .int m] ∧ ShR K τ H p s ∧ s.Ok ∧ ∀ (u : V) (H' : Hp), DT K H' u (s.rai m).D → Same H H' → Q u H'
def tkI : Option Nat → Int
  | some k => (k : Int)
  | none => -1
def spTkn (K : PySem.W.Frag) : Sp := fun vs H Q _ => ∃ (τ : Tg) (p : Addr) (s : Shp) (x : Int), vs = [.ref p, .int x] ∧ ShR K τ H p s ∧ s.Ok ∧ Q (.int (tkI (s.tk x))) H
section
variable {P : Program} {w : World} {K : PySem.W.Frag} {mg : Str → Option Value} {base : Heap} {a : Ad}
theorem ok_law_raising (T : Txt w K mg a) : FnOk P w K mg base CX0 1 a.f_law_raising a.d_law_raising ["shape", "number"] (spRsg K) := by
  refine T.F__law_raising.ok sc_law_raising (fun vs H Q E h => ?_) (fun cdv A outer s H vs Q E hr h => ?_)
  · obtain ⟨_, _, _, _, rfl, _⟩ := h; rfl
  · obtain ⟨τ, p, sh, m, rfl, hs, ok, q⟩ := h
    refine ⟨_, (pss_cons (ps_if (pt_cmpR op_eq (pe_dget (hu_of hr) (pv 0) pe_str (fun _ _ => rfl)) pe_int (nomark _)) (pss_one (ps_ret (pe_tup (pa_cons pe_str (pa_cons (pe_op op_add (pv 1) pe_int) (pa_cons pe_int (pa_cons (pe_tup pa_nil) (pa_cons (pe_tup pa_nil) (pa_cons (pe_dget (hu_of hr) (pv 0) pe_str (fun _ _ => rfl)) pa_nil))))))))) pss_nil)
      (pss_cons (ps_if (pt_cmpR op_eq (pe_dget (hu_of hr) (pv 0) pe_str (fun _ _ => rfl)) pe_int (nomark _)) (pss_one (ps_ret (pe_tup (pa_cons pe_str (pa_cons (pe_tup (pa_cons pe_str (pa_cons pe_int pa_nil))) pa_nil))))) pss_nil)
      (pss_cons (ps_if (pt_cmpR op_eq (pe_dget (hu_of hr) (pv 0) pe_str (fun _ _ => rfl)) pe_int (nomark _)) (pss_one (ps_ret (pe_tup (pa_cons pe_str (pa_cons pe_int (pa_cons (pe_tup (pa_cons pe_str (pa_cons pe_int pa_nil))) (pa_cons (pe_tup (pa_cons pe_str (pa_cons pe_int pa_nil))) (pa_cons (pe_dget (hu_of hr) (pv 0) pe_str (fun _ _ => rfl)) pa_nil)))))))) pss_nil)
      (pss_one (ps_ret (pe_tup (pa_cons pe_str (pa_cons (pe_dget (hu_of hr) (pv 0) pe_str (fun _ _ => rfl)) (pa_cons (pe_dget (hu_of hr) (pv 0) pe_str (fun _ _ => rfl)) pa_nil))))))))), ?_⟩
    obtain ⟨rw, rg, od, ys, us, ws, h1, h2, h3, h4, h5, h6, h7⟩ := hs.o
    unfold Shp.rai at q
    refine ⟨_, rfl, p, _, rfl, sg_kind h1.1, rfl, _, rfl, ite3 (fun e => ?_) (fun e => ?_)⟩
    · have e0 : sh.kd = 0 := by simpa using e
      rw [if_pos e0] at q
      refine ⟨_, rfl, _, _, rfl, rfl, by show 0 ≤ sizeLine; decide, fun t1 n1 => ⟨by show 0 ≤ sizeLine; decide, fun t2 n2 => ?_⟩⟩
      have s1 : Same H (upd H t1 (.tup [])) := sN (Same.refl _) n1
      have s2 : Same H (upd (upd H t1 (.tup [])) t2 (.tup [])) := sN s1 n2
      have d1 : DT K (upd (upd H t1 (.tup [])) t2 (.tup [])) (.ref t1) (.tuple []) := .tup (SqT.of (sN (Same.refl _) n2 _ _ upd_same)) .nil
      have d2 : DT K (upd (upd H t1 (.tup [])) t2 (.tup [])) (.ref t2) (.tuple []) := .tup (SqT.of upd_same) .nil
      generalize upd (upd H t1 (.tup [])) t2 (.tup []) = H2 at s2 d1 d2 ⊢
      refine ⟨_, rfl, p, _, rfl, sg_place (s2 _ _ h1.1), by show 6 ≤ sizeLine; decide, fun t3 n3 => ?_⟩
      have s3 : Same H2 (upd H2 t3 (.tup [V.str "call", V.int ((m : Int) + 1), V.int 0, V.ref t1, V.ref t2, V.int sh.pl])) := sN (Same.refl _) n3
      exact q _ _ (.tup (SqT.of upd_same) (.cons (.str _) (.cons (.int _) (.cons (.int _) (.cons (d1.keep (KT.same s3)) (.cons (d2.keep (KT.same s3)) (.cons (.int _) .nil))))))) (sTr s2 s3)
    have e0 : ¬ sh.kd = 0 := by simpa using e
    rw [if_neg e0] at q
    refine ⟨_, rfl, p, _, rfl, sg_kind h1.1, rfl, _, rfl, ite3 (fun e => ?_) (fun e => ?_)⟩
    · have e1 : sh.kd = 1 := by simpa using e
      rw [if_pos e1] at q
      refine ⟨by show 2 ≤ sizeLine; decide, fun t1 n1 => ⟨by show 2 ≤ sizeLine; decide, fun t2 n2 => ?_⟩⟩
      have s1 : Same H (upd H t1 (.tup [V.str "int", V.int 55])) := sN (Same.refl _) n1
      have s2 : Same (upd H t1 (.tup [V.str "int", V.int 55])) (upd (upd H t1 (.tup [V.str "int", V.int 55])) t2 (.tup [V.str "put", V.ref t1])) := sN (Same.refl _) n2
      exact q _ _ (.tup (SqT.of upd_same) (.cons (.str _) (.cons (.tup (SqT.of (s2 _ _ upd_same)) (.cons (.str _) (.cons (.int _) .nil))) .nil))) (sTr s1 s2)
    have e1 : ¬ sh.kd = 1 := by simpa using e
    rw [if_neg e1] at q
    refine ⟨_, rfl, p, _, rfl, sg_kind h1.1, rfl, _, rfl, ite3 (fun e => ?_) (fun e => ?_)⟩
    · have e2 : sh.kd = 2 := by simpa using e
      rw [if_pos e2] at q
      refine ⟨by show 2 ≤ sizeLine; decide, fun t1 n1 => ⟨by show 2 ≤ sizeLine; decide, fun t2 n2 => ?_⟩⟩
      have s1 : Same H (upd H t1 (.tup [V.str "int", V.int 1])) := sN (Same.refl _) n1
      have s2 : Same (upd H t1 (.tup [V.str "int", V.int 1])) (upd (upd H t1 (.tup [V.str "int", V.int 1])) t2 (.tup [V.str "int", V.int 0])) := sN (Same.refl _) n2
      have d1 : DT K (upd (upd H t1 (.tup [V.str "int", V.int 1])) t2 (.tup [V.str "int", V.int 0])) (.ref t1) (opD ("int", 1)) := .tup (SqT.of (s2 _ _ upd_same)) (.cons (.str _) (.cons (.int _) .nil))
      have d2 : DT K (upd (upd H t1 (.tup [V.str "int", V.int 1])) t2 (.tup [V.str "int", V.int 0])) (.ref t2) (opD ("int", 0)) := .tup (SqT.of upd_same) (.cons (.str _) (.cons (.int _) .nil))
      have s2 := sTr s1 s2
      generalize upd (upd H t1 (.tup [V.str "int", V.int 1])) t2 (.tup [V.str "int", V.int 0]) = H2 at s2 d1 d2 ⊢
      refine ⟨_, rfl, p, _, rfl, sg_place (s2 _ _ h1.1), by show 5 ≤ sizeLine; decide, fun t3 n3 => ?_⟩
      have s3 : Same H2 (upd H2 t3 (.tup [V.str "div", V.int 0, V.ref t1, V.ref t2, V.int sh.pl])) := sN (Same.refl _) n3
      exact q _ _ (.tup (SqT.of upd_same) (.cons (.str _) (.cons (.int _) (.cons (d1.keep (KT.same s3)) (.cons (d2.keep (KT.same s3)) (.cons (.int _) .nil)))))) (sTr s2 s3)
    have e2 : ¬ sh.kd = 2 := by simpa using e
    rw [if_neg e2] at q
    refine ⟨_, rfl, p, _, rfl, sg_number h1.1, _, rfl, p, _, rfl, sg_place h1.1, by show 3 ≤ sizeLine; decide, fun t3 n3 => ?_⟩
    exact q _ _ (.tup (SqT.of upd_same) (.cons (.str _) (.cons (.int _) (.cons (.int _) .nil)))) (sN (Same.refl _) n3)
theorem ok_law_taken (T : Txt w K mg a) : FnOk P w K mg base CX0 1 a.f_law_taken a.d_law_taken ["shape", "index"] (spTkn K) := by
  refine T.F__law_taken.ok sc_law_taken (fun vs H Q E h => ?_) (fun cdv A outer s H vs Q E hr h => ?_)
  · obtain ⟨_, _, _, _, rfl, _⟩ := h; rfl
  · obtain ⟨τ, p, sh, x, rfl, hs, ok, q⟩ := h
    refine ⟨_, (pss_cons (ps_for PassesOwn.never rfl (pi_list (pe_dget (hu_of hr) (pv 0) pe_str (fun _ _ => rfl))) (pg_name (i := 2) sc_law_taken.nd rfl (Or.inl rfl)) (pss_one (ps_if (PW.pt (pw_and (pt_cmpR op_le (pe_ix ix_tup (pv 2) pe_int (fun _ _ => rfl)) (pv 1) (nomark _)) (pw_and1 (pt_cmpR op_lt (pv 1) (pe_ix ix_tup (pv 2) pe_int (fun _ _ => rfl)) (nomark _))))) (pss_one (ps_ret (pe_bm PySem.F.plainAttrs_list PySem.F.slot_list_index PySem.F.type_list_index (mt_indexD (My.u65 hr)) (pe_dget (hu_of hr) (pv 0) pe_str (fun _ _ => rfl)) (pa_cons (pv 2) pa_nil)))) pss_nil)))
      (pss_one (ps_ret (pe_un un_neg pe_int)))), ?_⟩
    obtain ⟨rw, rg, od, ys, us, ws, h1, h2, h3, h4, h5, h6, h7⟩ := hs.o
    have hl : ws.length = sh.od.length := by have := DTs.len h7; rw [List.length_map] at this; exact this
    have rd : ∀ {v : V} {r : List Int} {i : Nat}, DT K H v (regD r) → i < r.length → ∃ pa xs, v = .ref pa ∧ SqT K H pa xs ∧ atI xs (i : Int) = some (.int (r.getD i 0)) := fun {v r i} d hi => by
      obtain ⟨pa, xs, rfl, h1, h2⟩ := d.ts
      obtain rfl := DTs.ints h2
      refine ⟨pa, _, rfl, h1, atI_nat ?_⟩
      rw [List.getElem?_map, List.getD_eq_getElem?_getD, List.getElem?_eq_getElem hi]; rfl
    refine ⟨_, rfl, p, _, rfl, sg_order h1.1, od, rfl, ⟨_, SqL.of h6.1⟩, ?_⟩
    refine for_list (K := K) (a := od) (xs := ws) (fun i σ H' => H' = H ∧ (∀ q ∈ sh.od.take i, inR x q = false) ∧ ∃ o2 : Option V, σ = [some (.ref p), some (.int x), o2]) ⟨rfl, fun q h => by simp at h, none, rfl⟩ (fun i σ H' _ h => by obtain ⟨rfl, _⟩ := h; exact SqL.of h6.1) ?_ ?_
    · rintro i v σ H1 ev ⟨rfl, hn, o2, rfl⟩
      have hi : i < ws.length := (List.getElem?_eq_some_iff.mp ev).1
      have hi2 : i < sh.od.length := by omega
      obtain ⟨v', ev', dv⟩ := h7.it i (d := regD sh.od[i]) (by rw [List.getElem?_map, List.getElem?_eq_getElem hi2]; rfl)
      obtain rfl := Option.some.inj ((atI_nat ev).symm.trans ev')
      have hm : sh.od[i] ∈ sh.regs := ok.od _ (List.getElem_mem hi2)
      have h5l : sh.od[i].length = 5 := by
        obtain ⟨j, hj⟩ := List.getElem?_of_mem hm
        obtain ⟨x, y, e, _⟩ := ok.rg j _ hj
        rw [e]; rfl
      have hv := fun k (hk : k < 5) => rd dv (i := k) (by rw [h5l]; exact hk)
      obtain ⟨pa, xs, rfl, t1, t2⟩ := hv 0 (by decide)
      obtain ⟨pa', xs', e', t1', t3⟩ := hv 1 (by decide)
      obtain rfl : pa = pa' := by injection e'
      have nx : inR x sh.od[i] = false → ∀ q ∈ sh.od.take (i + 1), inR x q = false := fun e q hq => by
        rw [List.take_succ_eq_append_getElem hi2] at hq
        rcases List.mem_append.mp hq with hq | hq
        · exact hn q hq
        · rw [List.mem_singleton.mp hq]; exact e
      refine ⟨_, rfl, _, _, _, _, rfl, rfl, t1, t2, _, rfl, _, _, rfl, rfl, _, rfl, ite3 (fun e => ?_) (fun e => ?_)⟩
      · refine ⟨_, rfl, _, rfl, _, _, _, _, rfl, rfl, t1', t3, _, _, rfl, rfl, _, rfl, ite3 (fun e2 => ?_) (fun e2 => ?_)⟩
        · have hin : inR x sh.od[i] = true := by
            unfold inR; simp at e e2 ⊢; exact ⟨e, e2⟩
          have hf : sh.od.find? (inR x) = some sh.od[i] := by
            rw [List.find?_eq_some_iff_getElem]
            refine ⟨hin, i, hi2, rfl, fun j hj => ?_⟩
            have := hn (sh.od[j]'(by omega)) (List.mem_take_iff_getElem.mpr ⟨j, by omega, rfl⟩)
            rw [this]; rfl
          have et : sh.tk x = some (sh.regs.idxOf sh.od[i]) := by unfold Shp.tk; rw [hf]; rfl
          rw [et] at q
          have hil : sh.regs.idxOf sh.od[i] < sh.regs.length := List.idxOf_lt_length_of_mem hm
          refine ⟨_, rfl, p, _, rfl, sg_regions h1.1, .inl ⟨rfl, _, SqL.of h4.1⟩, _, rfl, rg, _, regD sh.od[i], sh.regs.map regD, sh.regs.idxOf sh.od[i], regD sh.od[i], rfl, rfl, .lst (SqL.of h4.1) h5.dps, dv.dp, shaped_rgs _, ?_, ?_, eqv_reg.mpr rfl, fun m z hmz ez => ?_, q⟩
          · exact (sh_ints _).shaped (by decide)
          · rw [List.getElem?_map, List.getElem?_eq_getElem hil, List.getElem_idxOf hil]; rfl
          · rw [List.getElem?_map] at ez
            cases eq : sh.regs[m]? with
            | none => rw [eq] at ez; cases ez
            | some r =>
              rw [eq] at ez
              obtain rfl := Option.some.inj ez
              have hne : r ≠ sh.od[i] := fun c => by
                rw [c] at eq
                exact idx_first _ _ hmz eq
              rw [← Bool.not_eq_true, eqv_reg]; exact hne
        · exact ⟨rfl, nx (by unfold inR; simp at e e2 ⊢; intro; exact e2), _, rfl⟩
      · exact ⟨rfl, nx (by unfold inR; simp at e ⊢; intro c; omega), _, rfl⟩
    · rintro σ H1 ⟨rfl, hn, o2, rfl⟩
      have hf : sh.od.find? (inR x) = none := by
        rw [List.find?_eq_none]
        intro r hr
        rw [hl, List.take_length] at hn
        rw [hn r hr]; decide
      have et : sh.tk x = none := by unfold Shp.tk; rw [hf]; rfl
      rw [et] at q
      exact ⟨1, rfl, q⟩
end

/-! ### a unit -/
def UnX (K : PySem.W.Frag) (a : Ad) (H : Hp) (u : Addr) (i : UI) : Prop := ∃ (dx ca ra : Addr) (us ws : List V), H u = some (.ins a.C_Unit dx (unF (.int i.par) (.int i.ar) (.int i.rs) (.int i.g) (.int i.cl) (.ref ca) (.ref ra))) ∧ SqT K H ca us ∧ DTs K H us (i.xs.map In.D) ∧ SqT K H ra ws ∧ DTs K H ws (i.rg.map regD)
def spUni (K : PySem.W.Frag) (a : Ad) : Sp := fun vs H Q _ => ∃ (τ : Tg) (p : Addr) (s : Shp) (m : Nat), vs = [.ref p, .int m] ∧ ShR K τ H p s ∧ s.Ok ∧ m < 10 ∧ ∀ (u : Addr) (H' : Hp), H u = none → UnX K a H' u (unU m s) → Same H H' → Q (.ref u) H'
structure CdR (K : PySem.W.Frag) (H H' : Hp) (D : Addr) (is : List In) : Prop where
  n : H D = none
  s : Same H H'
  l : ∃ ts, H' D = some (.lst ts) ∧ DTs K H' ts (is.map In.D)
theorem CdR.mono {K : PySem.W.Frag} {H H' H2 : Hp} {D : Addr} {is : List In} (h : CdR K H H' D is) (s : Same H' H2) : CdR K H H2 D is := by
  obtain ⟨ts, h1, h2⟩ := h.l
  exact ⟨h.n, sTr h.s s, ts, s _ _ h1, h2.keep (KT.same s)⟩
theorem CdR.add {K : PySem.W.Frag} {H H' : Hp} {D : Addr} {is : List In} {i : In} {v : V} {ts : List V} (h : CdR K H H' D is) (e : H' D = some (.lst ts)) (d : DT K H' v i.D) : CdR K H (upd H' D (.lst (ts ++ [v]))) D (is ++ [i]) := by
  obtain ⟨ts', h1, h2⟩ := h.l
  rw [e] at h1
  obtain rfl : ts = ts' := by injection h1 with h1; injection h1
  have kt : KT K H' (upd H' D (.lst (ts ++ [v]))) := KT.put e
  exact ⟨h.n, sUpd h.s h.n, _, upd_same, by rw [List.map_append]; exact (h2.keep kt).app (.cons (d.keep kt) .nil)⟩
theorem CdR.len {K : PySem.W.Frag} {H H' : Hp} {D : Addr} {is : List In} {ts : List V} (h : CdR K H H' D is) (e : H' D = some (.lst ts)) : ts.length = is.length := by
  obtain ⟨ts', h1, h2⟩ := h.l
  rw [e] at h1
  obtain rfl : ts = ts' := by injection h1 with h1; injection h1
  have := DTs.len h2
  rw [List.length_map] at this; exact this
section
variable {P : Program} {w : World} {K : PySem.W.Frag} {mg : Str → Option Value} {base : Heap} {a : Ad}
theorem ok_law_unit (T : Txt w K mg a) : FnOk P w K mg base CX0 3 a.f_law_unit a.d_law_unit ["shape", "number"] (spUni K a) := by
  have G_law_raising : FnOk P w K mg base CX0 1 _ _ _ _ := ok_law_raising T
  have G_Unit___init__ : FnOk P w K mg base CX0 1 _ _ _ _ := ok_Unit___init__ T
  refine T.F__law_unit.ok sc_law_unit (fun vs H Q E h => ?_) (fun cdv A outer s H vs Q E hr h => ?_)
  · obtain ⟨_, _, _, _, rfl, _⟩ := h; rfl
  · obtain ⟨τ, p, sh, m, rfl, hs, ok, hm, q⟩ := h
    refine ⟨_, (C8.pss_cut (ps_set (i := 2) sc_law_unit.nd rfl (Or.inl rfl) (pe_lst (pa_cons (pe_tup (pa_cons pe_str pa_nil)) pa_nil)))
      (C8.pss_cut (ps_for PassesOwn.never rfl (pi_range1 rfl T.b_range (pa_cons (pe_dget (hu_of hr) (pv 0) pe_str (fun _ _ => rfl)) pa_nil)) (pg_name (i := 3) sc_law_unit.nd rfl (Or.inl rfl)) (pss_one (ps_expr (pe_bm PySem.F.plainAttrs_list PySem.F.slot_list_append PySem.F.type_list_append mt_append (pv 2) (pa_cons (pe_tup (pa_cons pe_str (pa_cons (pe_tup (pa_cons pe_str (pa_cons (pe_op op_add (pe_op op_mul pe_int (pv 1)) (pv 3)) pa_nil))) pa_nil))) pa_nil)))))
      (C8.pss_cut (ps_expr (pe_bm PySem.F.plainAttrs_list PySem.F.slot_list_append PySem.F.type_list_append mt_append (pv 2) (pa_cons (pe_call G_law_raising (hr.mono (by decide)) rfl T.g__law_raising T.k__law_raising T.bd__law_raising .nil pass0 (pa_cons (pv 0) (pa_cons (pv 1) pa_nil))) pa_nil)))
      (C8.pss_cut (ps_for PassesOwn.never rfl (pi_range1 rfl T.b_range (pa_cons (pe_dget (hu_of hr) (pv 0) pe_str (fun _ _ => rfl)) pa_nil)) (pg_name (i := 3) sc_law_unit.nd rfl (Or.inl rfl)) (pss_one (ps_expr (pe_bm PySem.F.plainAttrs_list PySem.F.slot_list_append PySem.F.type_list_append mt_append (pv 2) (pa_cons (pe_tup (pa_cons pe_str (pa_cons (pe_tup (pa_cons pe_str (pa_cons (pe_op op_add (pe_op op_add (pe_op op_mul pe_int (pv 1)) pe_int) (pv 3)) pa_nil))) pa_nil))) pa_nil)))))
      (C8.pss_cut (ps_expr (pe_bm PySem.F.plainAttrs_list PySem.F.slot_list_append PySem.F.type_list_append mt_append (pv 2) (pa_cons (pe_tup (pa_cons pe_str (pa_cons (pe_tup pa_nil) pa_nil))) pa_nil)))
      (C8.pss_cut (ps_for PassesOwn.never rfl (pi_range1 rfl T.b_range (pa_cons (pe_callB call_len_seq (by rfl) T.b_len (by decide +kernel) (pa_cons (pe_dget (hu_of hr) (pv 0) pe_str (fun _ _ => rfl)) pa_nil)) pa_nil)) (pg_name (i := 3) sc_law_unit.nd rfl (Or.inl rfl)) (C8.pss_cut (ps_set (i := 4) sc_law_unit.nd rfl (Or.inl rfl) (pe_ix ix_list (pe_dget (hu_of hr) (pv 0) pe_str (fun _ _ => rfl)) (pv 3) (fun _ _ => rfl)))
      (C8.pss_cut (ps_set (i := 5) sc_law_unit.nd rfl (Or.inl rfl) (pe_ix ix_list (pe_dget (hu_of hr) (pv 0) pe_str (fun _ _ => rfl)) (pv 3) (fun _ _ => rfl)))
      (C8.pss_cut (ps_expr (pe_bm PySem.F.plainAttrs_list PySem.F.slot_list_append PySem.F.type_list_append mt_append (pv 2) (pa_cons (pe_tup (pa_cons pe_str (pa_cons (pe_tup (pa_cons pe_str (pa_cons (pe_ix ix_tup (pv 4) pe_int (fun _ _ => rfl)) pa_nil))) pa_nil))) pa_nil)))
      (C8.pss_cut (ps_expr (pe_bm PySem.F.plainAttrs_list PySem.F.slot_list_append PySem.F.type_list_append mt_append (pv 2) (pa_cons (pe_tup (pa_cons pe_str (pa_cons (pe_tup (pa_cons pe_str (pa_cons (pe_ix ix_tup (pv 4) pe_int (fun _ _ => rfl)) pa_nil))) pa_nil))) pa_nil)))
      (pss_one (ps_if (PW.pt (pw_and (pt_cmpR op_eq (pe_ix ix_list (pv 5) pe_int (fun _ _ => rfl)) pe_int (nomark _)) (pw_and1 (pt_cmpR op_lt (pe_op op_add (pv 3) pe_int) (pe_callB call_len_seq (by rfl) T.b_len (by decide +kernel) (pa_cons (pe_dget (hu_of hr) (pv 0) pe_str (fun _ _ => rfl)) pa_nil)) (nomark _))))) (pss_one (ps_expr (pe_bm PySem.F.plainAttrs_list PySem.F.slot_list_append PySem.F.type_list_append mt_append (pv 2) (pa_cons (pe_tup (pa_cons pe_str (pa_cons (pe_op op_add (pe_callB call_len_seq (by rfl) T.b_len (by decide +kernel) (pa_cons (pv 2) pa_nil)) pe_int) pa_nil))) pa_nil)))) (pss_one (ps_if (pt_cmpR op_lt (pe_ix ix_list (pv 5) pe_int (fun _ _ => rfl)) pe_int (nomark _)) (pss_one (ps_expr (pe_bm PySem.F.plainAttrs_list PySem.F.slot_list_append PySem.F.type_list_append mt_append (pv 2) (pa_cons (pe_tup (pa_cons pe_str (pa_cons (pe_tup pa_nil) pa_nil))) pa_nil)))) (pss_one (ps_if (pt_cmpR op_eq (pe_ix ix_list (pv 5) pe_int (fun _ _ => rfl)) pe_int (nomark _)) (pss_one (ps_expr (pe_bm PySem.F.plainAttrs_list PySem.F.slot_list_append PySem.F.type_list_append mt_append (pv 2) (pa_cons (pe_tup (pa_cons pe_str (pa_cons (pe_tup (pa_cons pe_str (pa_cons (pe_ix ix_tup (pv 4) pe_int (fun _ _ => rfl)) pa_nil))) (pa_cons (pe_tup (pa_cons pe_str (pa_cons (pe_ix ix_tup (pv 4) pe_int (fun _ _ => rfl)) pa_nil))) pa_nil)))) pa_nil)))) (pss_one (ps_expr (pe_bm PySem.F.plainAttrs_list PySem.F.slot_list_append PySem.F.type_list_append mt_append (pv 2) (pa_cons (pe_tup (pa_cons pe_str (pa_cons (pe_ix ix_list (pv 5) pe_int (fun _ _ => rfl)) (pa_cons (pe_ix ix_list (pv 5) pe_int (fun _ _ => rfl)) pa_nil)))) pa_nil)))))))))))))))
      (pss_one (ps_ret (pe_make T.mk_Unit G_Unit___init__ (hr.mono (by decide)) rfl T.g_Unit T.bd_Unit___init__ .nil pass0 (pa_cons (pe_op op_sub (pv 1) pe_int) (pa_cons pe_int (pa_cons pe_int (pa_cons pe_int (pa_cons pe_int (pa_cons (pe_callTy call_tuple_of (by rfl) T.b_tuple (by decide +kernel) (pa_cons (pv 2) pa_nil)) (pa_cons (pe_callTy call_tuple_of (by rfl) T.b_tuple (by decide +kernel) (pa_cons (pe_dget (hu_of hr) (pv 0) pe_str (fun _ _ => rfl)) pa_nil)) pa_nil)))))))))))))))), ?_⟩
    obtain ⟨rw, rg, od, ys, us, ws, h1, h2, h3, h4, h5, h6, h7⟩ := hs.o
    have b1 := ok.b1
    have a1 := ok.a1
    have l5 := ok.l5
    have sm : ∀ {n : Nat}, n ≤ 100 → n < sizeLine := fun h => small1000 (by omega)
    -- the tick
    refine ⟨fun σ H' => ∃ (D : Addr), CdR K H H' D [.ti] ∧ σ = [some (.ref p), some (.int (m : Int)), some (.ref D), none, none, none], ?_, ?_⟩
    · refine ⟨by show 1 ≤ sizeLine; decide, fun t1 n1 => ⟨by show 1 ≤ sizeLine; decide, fun D nD => ?_⟩⟩
      have s1 : Same H (upd H t1 (.tup [V.str "tick"])) := sN (Same.refl _) n1
      have s2 : Same (upd H t1 (.tup [V.str "tick"])) (upd (upd H t1 (.tup [V.str "tick"])) D (.lst [V.ref t1])) := sN (Same.refl _) nD
      have nD0 : H D = none := by
        cases c : H D with
        | none => rfl
        | some o => rw [s1 _ _ c] at nD; cases nD
      exact ⟨D, ⟨nD0, sTr s1 s2, _, upd_same, .cons (.tup (SqT.of (s2 _ _ upd_same)) (.cons (.str _) .nil)) .nil⟩, rfl⟩
    rintro σ H1 ⟨D, C, rfl⟩
    -- the puts before
    refine ⟨fun σ H' => ∃ x3 : Option V, CdR K H H' D (.ti :: befI m sh.bf) ∧ σ = [some (.ref p), some (.int (m : Int)), some (.ref D), x3, none, none], ?_, ?_⟩
    · refine ⟨_, rfl, p, _, rfl, sg_before (C.s _ _ h1.1), _, rfl, by omega, by omega, ?_⟩
      refine for_range (lo := 0) (n := (sh.bf : Int).toNat) (fun k σ H' => ∃ x3 : Option V, CdR K H H' D (.ti :: befI m k) ∧ σ = [some (.ref p), some (.int (m : Int)), some (.ref D), x3, none, none]) ⟨none, C, rfl⟩ ?_ ?_
      · rintro k σ H2 hk ⟨x3, C2, rfl⟩
        obtain ⟨ts, e1, e2⟩ := id C2.l
        have hl := C2.len e1
        rw [show (0 : Int) + (k : Nat) = (k : Int) by omega]
        refine ⟨_, rfl, .inl ⟨rfl, _, SqL.of e1⟩, _, rfl, _, _, rfl, rfl, .inl ⟨by decide, by decide⟩, _, rfl, _, _, rfl, rfl, by show 2 ≤ sizeLine; decide, fun t1 n1 => ⟨by show 2 ≤ sizeLine; decide, fun t2 n2 => ?_⟩⟩
        have s1 : Same H2 (upd H2 t1 (.tup [V.str "int", V.int (100 * (m : Int) + (k : Int))])) := sN (Same.refl _) n1
        have s2 : Same (upd H2 t1 (.tup [V.str "int", V.int (100 * (m : Int) + (k : Int))])) (upd (upd H2 t1 (.tup [V.str "int", V.int (100 * (m : Int) + (k : Int))])) t2 (.tup [V.str "put", V.ref t1])) := sN (Same.refl _) n2
        have d : DT K (upd (upd H2 t1 (.tup [V.str "int", V.int (100 * (m : Int) + (k : Int))])) t2 (.tup [V.str "put", V.ref t1])) (.ref t2) (In.pu ("int", 100 * (m : Int) + (k : Int))).D := .tup (SqT.of upd_same) (.cons (.str _) (.cons (.tup (SqT.of (s2 _ _ upd_same)) (.cons (.str _) (.cons (.int _) .nil))) .nil))
        have C3 := C2.mono (sTr s1 s2)
        have e3 := sTr s1 s2 _ _ e1
        refine ⟨D, ts, _, rfl, rfl, e3, sm (by rw [hl]; simp [befI]; omega), _, ?_, rfl⟩
        have := C3.add e3 d
        rw [show befI m (k + 1) = befI m k ++ [In.pu ("int", 100 * (m : Int) + (k : Int))] by unfold befI; rw [List.range_succ, List.map_append]; rfl]
        exact this
      · rintro σ H2 ⟨x3, C2, rfl⟩
        exact ⟨_, C2, rfl⟩
    clear C
    rintro σ H1 ⟨x3, C, rfl⟩
    -- the instruction that raises
    refine ⟨fun σ H' => CdR K H H' D ((.ti :: befI m sh.bf) ++ [sh.rai m]) ∧ σ = [some (.ref p), some (.int (m : Int)), some (.ref D), x3, none, none], ?_, ?_⟩
    · obtain ⟨ts, e1, e2⟩ := id C.l
      have hl := C.len e1
      refine ⟨_, rfl, .inl ⟨rfl, _, SqL.of e1⟩, _, rfl, _, rfl, τ, p, sh, m, rfl, hs.st (Stp.same (S := []) C.s) (by simp) (KT.same C.s), ok, fun u H2 d s2 => ?_⟩
      have e3 := s2 _ _ e1
      exact ⟨D, ts, u, rfl, rfl, e3, sm (by rw [hl]; simp [befI]; omega), (C.mono s2).add e3 d, rfl⟩
    clear C
    rintro σ H1 ⟨C, rfl⟩
    -- the puts after
    refine ⟨fun σ H' => ∃ x3 : Option V, CdR K H H' D ((.ti :: befI m sh.bf) ++ ([sh.rai m] ++ aftI m sh.af)) ∧ σ = [some (.ref p), some (.int (m : Int)), some (.ref D), x3, none, none], ?_, ?_⟩
    · refine ⟨_, rfl, p, _, rfl, sg_after (C.s _ _ h1.1), _, rfl, by omega, by omega, ?_⟩
      refine for_range (lo := 0) (n := (sh.af : Int).toNat) (fun k σ H' => ∃ x3 : Option V, CdR K H H' D ((.ti :: befI m sh.bf) ++ ([sh.rai m] ++ aftI m k)) ∧ σ = [some (.ref p), some (.int (m : Int)), some (.ref D), x3, none, none]) ⟨_, C, rfl⟩ ?_ ?_
      · rintro k σ H2 hk ⟨x3, C2, rfl⟩
        obtain ⟨ts, e1, e2⟩ := id C2.l
        have hl := C2.len e1
        rw [show (0 : Int) + (k : Nat) = (k : Int) by omega]
        refine ⟨_, rfl, .inl ⟨rfl, _, SqL.of e1⟩, _, rfl, _, _, rfl, rfl, .inl ⟨by decide, by decide⟩, _, _, rfl, rfl, _, rfl, _, _, rfl, rfl, by show 2 ≤ sizeLine; decide, fun t1 n1 => ⟨by show 2 ≤ sizeLine; decide, fun t2 n2 => ?_⟩⟩
        have s1 : Same H2 (upd H2 t1 (.tup [V.str "int", V.int (100 * (m : Int) + 50 + (k : Int))])) := sN (Same.refl _) n1
        have s2 : Same (upd H2 t1 (.tup [V.str "int", V.int (100 * (m : Int) + 50 + (k : Int))])) (upd (upd H2 t1 (.tup [V.str "int", V.int (100 * (m : Int) + 50 + (k : Int))])) t2 (.tup [V.str "put", V.ref t1])) := sN (Same.refl _) n2
        have d : DT K (upd (upd H2 t1 (.tup [V.str "int", V.int (100 * (m : Int) + 50 + (k : Int))])) t2 (.tup [V.str "put", V.ref t1])) (.ref t2) (In.pu ("int", 100 * (m : Int) + 50 + (k : Int))).D := .tup (SqT.of upd_same) (.cons (.str _) (.cons (.tup (SqT.of (s2 _ _ upd_same)) (.cons (.str _) (.cons (.int _) .nil))) .nil))
        have C3 := C2.mono (sTr s1 s2)
        have e3 := sTr s1 s2 _ _ e1
        refine ⟨D, ts, _, rfl, rfl, e3, sm (by rw [hl]; simp [befI, aftI]; omega), _, ?_, rfl⟩
        have := C3.add e3 d
        rw [show aftI m (k + 1) = aftI m k ++ [In.pu ("int", 100 * (m : Int) + 50 + (k : Int))] by unfold aftI; rw [List.range_succ, List.map_append]; rfl, ← List.append_assoc, ← List.append_assoc, List.append_assoc (In.ti :: befI m sh.bf)]
        exact this
      · rintro σ H2 ⟨x3, C2, rfl⟩
        exact ⟨_, C2, rfl⟩
    clear C x3
    rintro σ H1 ⟨x3, C, rfl⟩
    -- the return
    refine ⟨fun σ H' => CdR K H H' D (sh.hd m) ∧ σ = [some (.ref p), some (.int (m : Int)), some (.ref D), x3, none, none], ?_, ?_⟩
    · obtain ⟨ts, e1, e2⟩ := id C.l
      have hl := C.len e1
      refine ⟨_, rfl, .inl ⟨rfl, _, SqL.of e1⟩, by show 0 ≤ sizeLine; decide, fun t1 n1 => ⟨by show 2 ≤ sizeLine; decide, fun t2 n2 => ?_⟩⟩
      have s1 : Same H1 (upd H1 t1 (.tup [])) := sN (Same.refl _) n1
      have s2 : Same (upd H1 t1 (.tup [])) (upd (upd H1 t1 (.tup [])) t2 (.tup [V.str "return", V.ref t1])) := sN (Same.refl _) n2
      have d : DT K (upd (upd H1 t1 (.tup [])) t2 (.tup [V.str "return", V.ref t1])) (.ref t2) (In.re []).D := .tup (SqT.of upd_same) (.cons (.str _) (.cons (.tup (SqT.of (s2 _ _ upd_same)) .nil) .nil))
      have C3 := C.mono (sTr s1 s2)
      have e3 := sTr s1 s2 _ _ e1
      refine ⟨D, ts, _, rfl, rfl, e3, sm (by rw [hl]; simp [befI, aftI]; omega), ?_, rfl⟩
      have := C3.add e3 d
      unfold Shp.hd
      rw [List.append_assoc, List.append_assoc] at this
      exact this
    clear C
    rintro σ H1 ⟨C, rfl⟩
    -- the rows
    have hyl : ys.length = sh.rows.length := h3.1
    have hul : us.length = sh.regs.length := by have := DTs.len h5; rw [List.length_map] at this; exact this
    have hhd := Shp.hd_len sh m
    refine ⟨fun σ H' => ∃ x3 x4 x5 : Option V, CdR K H H' D (sh.cd m) ∧ σ = [some (.ref p), some (.int (m : Int)), some (.ref D), x3, x4, x5], ?_, ?_⟩
    · refine ⟨_, rfl, p, _, rfl, sg_rows (C.s _ _ h1.1), rw, _, rfl, .inl (SqL.of (C.s _ _ h2.1)), _, rfl, by rw [List.length_map]; omega, by rw [List.length_map]; omega, ?_⟩
      refine for_range (lo := 0) (n := ((ys.map V.ref).length : Int).toNat) (fun k σ H' => ∃ x3 x4 x5 : Option V, CdR K H H' D (sh.hd m ++ sh.rws k) ∧ σ = [some (.ref p), some (.int (m : Int)), some (.ref D), x3, x4, x5]) ⟨x3, none, none, by rw [show sh.rws 0 = [] from rfl, List.append_nil]; exact C, rfl⟩ ?_ ?_
      · rintro k σ H2 hk ⟨x3, x4, x5, C2, rfl⟩
        rw [List.length_map] at hk
        have hk1 : k < sh.rows.length := by omega
        rw [show (0 : Int) + (k : Nat) = (k : Int) by omega]
        have hku : k < sh.regs.length := by rw [ok.l]; exact hk1
        obtain ⟨ur, eur, dur⟩ := h5.it k (d := regD sh.regs[k]) (by rw [List.getElem?_map, List.getElem?_eq_getElem hku]; rfl)
        obtain ⟨xx, yy, er, _⟩ := ok.rg k _ (List.getElem?_eq_getElem hku)
        rw [er] at dur
        obtain ⟨pa, xs, rfl, g1, g2⟩ := dur.ts
        obtain rfl := DTs.ints g2
        -- the region
        refine ⟨fun σ H' => ∃ x5 : Option V, CdR K H H' D (sh.hd m ++ sh.rws k) ∧ σ = [some (.ref p), some (.int (m : Int)), some (.ref D), some (.int (k : Int)), some (.ref pa), x5], ?_, ?_⟩
        · exact ⟨_, rfl, p, _, rfl, sg_regions (C2.s _ _ h1.1), _, rfl, _, _, _, _, rfl, rfl, SqL.of (C2.s _ _ h4.1), eur, _, C2, rfl⟩
        clear C2
        rintro σ H3 ⟨x5, C3, rfl⟩
        -- the row
        have hky : k < ys.length := by omega
        have ay := h3.2 k ys[k] sh.rows[k] (List.getElem?_eq_getElem hky) (List.getElem?_eq_getElem hk1)
        have ero : sh.ro k = sh.rows[k] := by unfold Shp.ro; rw [List.getD_eq_getElem?_getD, List.getElem?_eq_getElem hk1]; rfl
        rw [← ero] at ay
        refine ⟨fun σ H' => CdR K H H' D (sh.hd m ++ sh.rws k) ∧ σ = [some (.ref p), some (.int (m : Int)), some (.ref D), some (.int (k : Int)), some (.ref pa), some (.ref ys[k])], ?_, ?_⟩
        · exact ⟨_, rfl, p, _, rfl, sg_rows (C3.s _ _ h1.1), _, rfl, _, _, _, _, rfl, rfl, SqL.of (C3.s _ _ h2.1), atI_nat (by rw [List.getElem?_map, List.getElem?_eq_getElem hky]; rfl), C3, rfl⟩
        clear C3
        rintro σ H3 ⟨C3, rfl⟩
        have pu : ∀ {H3 : Hp} {is : List In} {x : Int} {t1 t2 : Addr}, CdR K H H3 D is → H3 t1 = none → (n2 : upd H3 t1 (.tup [V.str "reg", V.int x]) t2 = none) → CdR K H (upd (upd H3 t1 (.tup [V.str "reg", V.int x])) t2 (.tup [V.str "put", V.ref t1])) D is ∧ DT K (upd (upd H3 t1 (.tup [V.str "reg", V.int x])) t2 (.tup [V.str "put", V.ref t1])) (.ref t2) (In.pu (rgO x)).D := fun {H3 is x t1 t2} C n1 n2 => by
          have s1 : Same H3 (upd H3 t1 (.tup [V.str "reg", V.int x])) := sN (Same.refl _) n1
          have s2 : Same (upd H3 t1 (.tup [V.str "reg", V.int x])) (upd (upd H3 t1 (.tup [V.str "reg", V.int x])) t2 (.tup [V.str "put", V.ref t1])) := sN (Same.refl _) n2
          exact ⟨C.mono (sTr s1 s2), .tup (SqT.of upd_same) (.cons (.str _) (.cons (.tup (SqT.of (s2 _ _ upd_same)) (.cons (.str _) (.cons (.int _) .nil))) .nil))⟩
        have hrl := Shp.rws_len sh k
        refine ⟨fun σ H' => CdR K H H' D (sh.hd m ++ sh.rws k ++ [In.pu (rgO (2 * (k : Int)))]) ∧ σ = [some (.ref p), some (.int (m : Int)), some (.ref D), some (.int (k : Int)), some (.ref pa), some (.ref ys[k])], ?_, ?_⟩
        · obtain ⟨ts, e1, e2⟩ := id C3.l
          have hl := C3.len e1
          refine ⟨_, rfl, .inl ⟨rfl, _, SqL.of e1⟩, _, rfl, _, _, _, _, rfl, rfl, KT.same C3.s _ _ g1, atI_nat (j := 3) rfl, by show 2 ≤ sizeLine; decide, fun t1 n1 => ⟨by show 2 ≤ sizeLine; decide, fun t2 n2 => ?_⟩⟩
          obtain ⟨C4, d⟩ := pu C3 n1 n2
          obtain ⟨ts', e3, _⟩ := id C4.l
          exact ⟨D, ts', _, rfl, rfl, e3, sm (by rw [C4.len e3]; simp [hhd, hrl]; omega), C4.add e3 d, rfl⟩
        clear C3
        rintro σ H3 ⟨C3, rfl⟩
        refine ⟨fun σ H' => CdR K H H' D (sh.hd m ++ sh.rws k ++ [In.pu (rgO (2 * (k : Int)))] ++ [In.pu (rgO (2 * (k : Int) + 1))]) ∧ σ = [some (.ref p), some (.int (m : Int)), some (.ref D), some (.int (k : Int)), some (.ref pa), some (.ref ys[k])], ?_, ?_⟩
        · obtain ⟨ts, e1, e2⟩ := id C3.l
          have hl := C3.len e1
          refine ⟨_, rfl, .inl ⟨rfl, _, SqL.of e1⟩, _, rfl, _, _, _, _, rfl, rfl, KT.same C3.s _ _ g1, atI_nat (j := 4) rfl, by show 2 ≤ sizeLine; decide, fun t1 n1 => ⟨by show 2 ≤ sizeLine; decide, fun t2 n2 => ?_⟩⟩
          obtain ⟨C4, d⟩ := pu C3 n1 n2
          obtain ⟨ts', e3, _⟩ := id C4.l
          exact ⟨D, ts', _, rfl, rfl, e3, sm (by rw [C4.len e3]; simp [hhd, hrl]; omega), C4.add e3 d, rfl⟩
        clear C3
        rintro σ H3 ⟨C3, rfl⟩
        -- the third
        have fin : ∀ {H4 : Hp}, CdR K H H4 D (sh.hd m ++ sh.rws k ++ [In.pu (rgO (2 * (k : Int)))] ++ [In.pu (rgO (2 * (k : Int) + 1))] ++ [sh.thd k]) → CdR K H H4 D (sh.hd m ++ sh.rws (k + 1)) := fun {H4} h => by
          rw [Shp.rws_succ]
          simpa [Shp.row] using h
        obtain ⟨ts, e1, e2⟩ := id C3.l
        have hl := C3.len e1
        have hl2 : ts.length = sh.e k + 2 := by rw [hl]; simp [hhd, hrl]; unfold Shp.e; omega
        have hy := C3.s _ _ ay.1
        have en : sh.e k ≤ 30 := by unfold Shp.e; omega
        unfold Shp.thd at fin
        refine ⟨_, rfl, _, _, _, _, rfl, rfl, SqL.of hy, atI_nat (j := 0) rfl, rfl, _, rfl, ?_⟩
        by_cases hA : (sh.ro k).1 = 0 ∧ k + 1 < sh.rows.length
        · rw [if_pos hA] at fin
          refine ite3 (fun _ => ?_) (fun e => absurd hA.1 (by simpa using e))
          refine ⟨_, rfl, _, _, rfl, rfl, _, rfl, p, _, rfl, sg_rows (C3.s _ _ h1.1), rw, _, rfl, .inl (SqL.of (C3.s _ _ h2.1)), _, _, rfl, rfl, _, rfl, ite3 (fun _ => ?_) (fun e => absurd hA.2 (by simp at e; omega))⟩
          refine ⟨_, rfl, .inl ⟨rfl, _, SqL.of e1⟩, _, rfl, D, ts, rfl, .inl (SqL.of e1), _, _, rfl, rfl, by show 2 ≤ sizeLine; decide, fun t1 n1 => ?_⟩
          have s1 : Same H3 (upd H3 t1 (.tup [V.str "jump", V.int ((ts.length : Int) + 1)])) := sN (Same.refl _) n1
          have d : DT K (upd H3 t1 (.tup [V.str "jump", V.int ((ts.length : Int) + 1)])) (.ref t1) (In.jm ((sh.e k : Int) + 3)).D := by
            have : (ts.length : Int) + 1 = (sh.e k : Int) + 3 := by omega
            rw [this]
            exact .tup (SqT.of upd_same) (.cons (.str _) (.cons (.int _) .nil))
          exact ⟨D, ts, _, rfl, rfl, s1 _ _ e1, sm (by omega), _, _, _, fin ((C3.mono s1).add (s1 _ _ e1) d), rfl⟩
        rw [if_neg hA] at fin
        by_cases h0 : (sh.ro k).1 = 0
        refine ite3 (fun _ => ⟨_, rfl, _, _, rfl, rfl, _, rfl, p, _, rfl, sg_rows (C3.s _ _ h1.1), rw, _, rfl, .inl (SqL.of (C3.s _ _ h2.1)), _, _, rfl, rfl, _, rfl, ite3 (fun e => absurd ⟨h0, by simp at e; omega⟩ hA) (fun _ => ?_)⟩) (fun e => absurd h0 (by simpa using e))
        rotate_left
        refine ite3 (fun e => absurd (by simpa using e) h0) (fun _ => ?_)
        all_goals clear h0
        all_goals (
          refine ⟨_, rfl, _, _, _, _, rfl, rfl, SqL.of hy, atI_nat (j := 0) rfl, _, _, rfl, rfl, _, rfl, ite3 (fun e => ?_) (fun e => ?_)⟩
          · have hB : (sh.ro k).1 < 2 := by simpa using e
            rw [if_pos hB] at fin
            refine ⟨_, rfl, .inl ⟨rfl, _, SqL.of e1⟩, by show 0 ≤ sizeLine; decide, fun t1 n1 => ⟨by show 2 ≤ sizeLine; decide, fun t2 n2 => ?_⟩⟩
            have s1 : Same H3 (upd H3 t1 (.tup [])) := sN (Same.refl _) n1
            have s2 : Same (upd H3 t1 (.tup [])) (upd (upd H3 t1 (.tup [])) t2 (.tup [V.str "return", V.ref t1])) := sN (Same.refl _) n2
            have d : DT K (upd (upd H3 t1 (.tup [])) t2 (.tup [V.str "return", V.ref t1])) (.ref t2) (In.re []).D := .tup (SqT.of upd_same) (.cons (.str _) (.cons (.tup (SqT.of (s2 _ _ upd_same)) .nil) .nil))
            exact ⟨D, ts, _, rfl, rfl, sTr s1 s2 _ _ e1, sm (by omega), _, _, _, fin ((C3.mono (sTr s1 s2)).add (sTr s1 s2 _ _ e1) d), rfl⟩
          have hB : ¬ (sh.ro k).1 < 2 := by simpa using e
          rw [if_neg hB] at fin
          refine ⟨_, rfl, _, _, _, _, rfl, rfl, SqL.of hy, atI_nat (j := 0) rfl, rfl, _, rfl, ite3 (fun e => ?_) (fun e => ?_)⟩
          · have hC : (sh.ro k).1 = 2 := by simpa using e
            rw [if_pos hC] at fin
            refine ⟨_, rfl, .inl ⟨rfl, _, SqL.of e1⟩, _, rfl, _, _, _, _, rfl, rfl, KT.same C3.s _ _ g1, atI_nat (j := 3) rfl, by show 2 ≤ sizeLine; decide, fun t1 n1 => ?_⟩
            have s1 : Same H3 (upd H3 t1 (.tup [V.str "reg", V.int (2 * (k : Int))])) := sN (Same.refl _) n1
            refine ⟨_, rfl, _, _, _, _, rfl, rfl, KT.same (sTr C3.s s1) _ _ g1, atI_nat (j := 4) rfl, by show 2 ≤ sizeLine; decide, fun t2 n2 => ⟨by show 3 ≤ sizeLine; decide, fun t3 n3 => ?_⟩⟩
            have s2 : Same (upd H3 t1 (.tup [V.str "reg", V.int (2 * (k : Int))])) (upd (upd H3 t1 (.tup [V.str "reg", V.int (2 * (k : Int))])) t2 (.tup [V.str "reg", V.int (2 * (k : Int) + 1)])) := sN (Same.refl _) n2
            have d1 : DT K (upd (upd H3 t1 (.tup [V.str "reg", V.int (2 * (k : Int))])) t2 (.tup [V.str "reg", V.int (2 * (k : Int) + 1)])) (.ref t1) (opD (rgO (2 * (k : Int)))) := .tup (SqT.of (s2 _ _ upd_same)) (.cons (.str _) (.cons (.int _) .nil))
            have d2 : DT K (upd (upd H3 t1 (.tup [V.str "reg", V.int (2 * (k : Int))])) t2 (.tup [V.str "reg", V.int (2 * (k : Int) + 1)])) (.ref t2) (opD (rgO (2 * (k : Int) + 1))) := .tup (SqT.of upd_same) (.cons (.str _) (.cons (.int _) .nil))
            have s12 := sTr s1 s2
            generalize upd (upd H3 t1 (.tup [V.str "reg", V.int (2 * (k : Int))])) t2 (.tup [V.str "reg", V.int (2 * (k : Int) + 1)]) = H4 at s12 d1 d2 n3 ⊢
            have s3 : Same H4 (upd H4 t3 (.tup [V.str "again", V.ref t1, V.ref t2])) := sN (Same.refl _) n3
            have d : DT K (upd H4 t3 (.tup [V.str "again", V.ref t1, V.ref t2])) (.ref t3) (In.ag (rgO (2 * (k : Int))) (rgO (2 * (k : Int) + 1))).D := .tup (SqT.of upd_same) (.cons (.str _) (.cons (d1.keep (KT.same s3)) (.cons (d2.keep (KT.same s3)) .nil)))
            exact ⟨D, ts, _, rfl, rfl, sTr s12 s3 _ _ e1, sm (by omega), _, _, _, fin ((C3.mono (sTr s12 s3)).add (sTr s12 s3 _ _ e1) d), rfl⟩
          have hC : ¬ (sh.ro k).1 = 2 := by simpa using e
          rw [if_neg hC] at fin
          refine ⟨_, rfl, .inl ⟨rfl, _, SqL.of e1⟩, _, rfl, _, _, _, _, rfl, rfl, SqL.of hy, atI_nat (j := 1) rfl, _, rfl, _, _, _, _, rfl, rfl, SqL.of hy, atI_nat (j := 2) rfl, by show 3 ≤ sizeLine; decide, fun t1 n1 => ?_⟩
          have s1 : Same H3 (upd H3 t1 (.tup [V.str "raise", V.int (sh.ro k).2.1, V.int (sh.ro k).2.2])) := sN (Same.refl _) n1
          have d : DT K (upd H3 t1 (.tup [V.str "raise", V.int (sh.ro k).2.1, V.int (sh.ro k).2.2])) (.ref t1) (In.ra (sh.ro k).2.1 (sh.ro k).2.2).D := .tup (SqT.of upd_same) (.cons (.str _) (.cons (.int _) (.cons (.int _) .nil)))
          exact ⟨D, ts, _, rfl, rfl, s1 _ _ e1, sm (by omega), _, _, _, fin ((C3.mono s1).add (s1 _ _ e1) d), rfl⟩)
      · rintro σ H2 ⟨x3, x4, x5, C2, rfl⟩
        rw [show ((ys.map V.ref).length : Int).toNat = sh.rows.length by rw [List.length_map]; omega] at C2
        exact ⟨_, _, _, C2, rfl⟩
    clear C
    rintro σ H1 ⟨x3, x4, x5, C, rfl⟩
    obtain ⟨ts, e1, e2⟩ := id C.l
    have ho := C.s _ _ h6.1
    refine ⟨_, rfl, _, _, rfl, rfl, _, rfl, D, ts, rfl, .inl ⟨SqL.of e1, fun ct nct => ⟨_, rfl, p, _, rfl, sg_order (sN (Same.refl _) nct _ _ (C.s _ _ h1.1)), od, ws, rfl, .inl ⟨SqL.of (sN (Same.refl _) nct _ _ ho), fun rt nrt => ?_⟩⟩⟩⟩
    refine fun x0 dx0 nx0 ndx0 nex0 => ?_
    have s1 : Same H1 (upd (upd H1 ct (.tup ts)) rt (.tup ws)) := sN (sN (Same.refl _) nct) nrt
    have t1 : SqT K (upd (upd H1 ct (.tup ts)) rt (.tup ws)) ct ts := SqT.of (sN (Same.refl _) nrt _ _ upd_same)
    have t2 : SqT K (upd (upd H1 ct (.tup ts)) rt (.tup ws)) rt ws := SqT.of upd_same
    generalize upd (upd H1 ct (.tup ts)) rt (.tup ws) = H10 at s1 t1 t2 nx0 ndx0 ⊢
    have nx1 : upd H10 dx0 (.own x0) x0 = none := by rw [upd_ne nex0.symm]; exact nx0
    have s2 : Same H10 (upd (upd (upd H10 dx0 (.own x0)) x0 (.ins a.C_Unit dx0 [])) x0 (.ins a.C_Unit dx0 (unF (.int ((m : Int) - 1)) (.int 0) (.int 0) (.int 12) (.int 0) (.ref ct) (.ref rt)))) := sUpd (sN (sN (Same.refl _) ndx0) nx1) nx0
    refine ⟨x0, dx0, _, _, _, _, _, _, _, rfl, upd_same, rfl, ?_⟩
    have nu : H x0 = none := by
      cases c : H x0 with
      | none => rfl
      | some o => rw [sTr C.s s1 _ _ c] at nx0; cases nx0
    exact q x0 _ nu ⟨dx0, ct, rt, ts, ws, upd_same, KT.same s2 _ _ t1, e2.keep (KT.same (sTr s1 s2)), KT.same s2 _ _ t2, h7.keep (KT.same (sTr C.s (sTr s1 s2)))⟩ (sTr C.s (sTr s1 s2))
end

/-! ### the law's rows -/
def EvT (K : PySem.W.Frag) (τ : Tg) (H : Hp) (ev : Addr) (l : List Int) : Prop := ∃ es, At τ H ev (.lst es) (6, 0, 0) ∧ DTs K H es ((puL l).map evD)
def RsV (τ : Tg) (H : Hp) : Option (Int × Int) → V → Prop
  | none, v => v = .non
  | some q, v => ∃ R, v = .ref R ∧ At τ H R (.lst [.int q.1, .int q.2]) (5, 0, 0)
structure GE (K : PySem.W.Frag) (τ τ' : Tg) (H H' : Hp) : Prop where
  s : Stp τ τ' [6] H H'
  k : KT K H H'
theorem GE.refl {K : PySem.W.Frag} {τ : Tg} {H : Hp} : GE K τ τ H H := ⟨Stp.refl, fun _ _ h => h⟩
theorem GE.tr {K : PySem.W.Frag} {τ τ' τ2 : Tg} {H H' H2 : Hp} (x : GE K τ τ' H H') (y : GE K τ' τ2 H' H2) : GE K τ τ2 H H2 := ⟨x.s.tr y.s, x.k.tr y.k⟩
theorem GE.new {K : PySem.W.Frag} {τ τ' : Tg} {H H' : Hp} {q : Addr} {o : HO} {x : Nat × Nat × Nat} (h : GE K τ τ' H H') (n : H' q = none) : GE K τ (tgN τ' q x) H (upd H' q o) := ⟨h.s.new n, h.k.tr (KT.new n)⟩
theorem EvT.st {K : PySem.W.Frag} {τ τ' : Tg} {Z : List Nat} {H H' : Hp} {ev : Addr} {l : List Int} (h : EvT K τ H ev l) (s : Stp τ τ' Z H H') (n : 6 ∉ Z) (k : KT K H H') : EvT K τ' H' ev l := by
  obtain ⟨es, h1, h2⟩ := h
  exact ⟨es, h1.st s n, h2.keep k⟩
theorem EvT.new {K : PySem.W.Frag} {τ : Tg} {H : Hp} {ev q : Addr} {l : List Int} {o : HO} {x : Nat × Nat × Nat} (h : EvT K τ H ev l) (n : H q = none) : EvT K (tgN τ q x) (upd H q o) ev l := h.st (Z := []) (Stp.refl.new n) (by simp) (KT.new n)
/-- a put -/
theorem EvT.add {K : PySem.W.Frag} {τ : Tg} {H : Hp} {ev : Addr} {l : List Int} {es : List V} {v : V} {x : Int} (h : EvT K τ H ev l) (e : H ev = some (.lst es)) (d : DT K H v (evD (true, x))) : EvT K τ (upd H ev (.lst (es ++ [v]))) ev (l ++ [x]) ∧ GE K τ τ H (upd H ev (.lst (es ++ [v]))) := by
  obtain ⟨es', h1, h2⟩ := h
  have e2 := h1.1.symm.trans e
  obtain rfl : es' = es := by injection e2 with e2; injection e2
  have kt : KT K H (upd H ev (.lst (es' ++ [v]))) := KT.put e
  refine ⟨⟨_, .set h1.2, ?_⟩, Stp.refl.put (by rw [h1.2]; simp), kt⟩
  unfold puL
  rw [List.map_append, List.map_append]
  exact (h2.keep kt).app (.cons (d.keep kt) .nil)
theorem EvT.ne {K : PySem.W.Frag} {τ : Tg} {H : Hp} {ev q : Addr} {l : List Int} {xs : List V} {o : HO} (h : EvT K τ H ev l) (e : At τ H q (.lst xs) (6, 1, 0)) : EvT K τ (upd H q o) ev l := by
  obtain ⟨es, h1, h2⟩ := h
  exact ⟨es, h1.put e.2 (by simp), h2.keep (KT.put e.1)⟩
theorem EvT.len {K : PySem.W.Frag} {τ : Tg} {H : Hp} {ev : Addr} {l : List Int} {es : List V} (h : EvT K τ H ev l) (e : H ev = some (.lst es)) : es.length = l.length := by
  obtain ⟨es', h1, h2⟩ := h
  have e2 := h1.1.symm.trans e
  obtain rfl : es' = es := by injection e2 with e2; injection e2
  have := DTs.len h2
  unfold puL at this
  rw [List.length_map, List.length_map] at this; exact this
def spRows (K : PySem.W.Frag) : Sp := fun vs H Q _ => ∃ (τ : Tg) (p : Addr) (s : Shp) (R : Addr) (q : Int × Int) (idx : Int) (ev : Addr) (l : List Int), vs = [.ref p, .ref R, .int idx, .ref ev] ∧ ShR K τ H p s ∧ s.Ok ∧ At τ H R (.lst [.int q.1, .int q.2]) (5, 0, 0) ∧ EvT K τ H ev l ∧ l.length ≤ 600 ∧
  ∀ (v : V) (τ' : Tg) (H' : Hp), RsV τ' H' (rowsF s 30 q (s.tk idx) true z12).2 v → EvT K τ' H' ev (l ++ (rowsF s 30 q (s.tk idx) true z12).1) → GE K τ τ' H H' → Q v H'
section
variable {P : Program} {w : World} {K : PySem.W.Frag} {mg : Str → Option Value} {base : Heap} {a : Ad}
theorem ok_law_rows (T : Txt w K mg a) : FnOk P w K mg base CX0 2 a.f_law_rows a.d_law_rows ["shape", "raised", "index", "events"] (spRows K) := by
  have G_law_taken : FnOk P w K mg base CX0 1 _ _ _ _ := ok_law_taken T
  refine T.F__law_rows.ok sc_law_rows (fun vs H Q E h => ?_) (fun cdv A outer s H vs Q E hr h => ?_)
  · obtain ⟨_, _, _, _, _, _, _, _, rfl, _⟩ := h; rfl
  · obtain ⟨τ, p, sh, R, q0, idx, ev, l, rfl, hs, ok, hR, hE, hl, q⟩ := h
    refine ⟨_, (C8.pss_cut (ps_set (i := 4) sc_law_rows.nd rfl (Or.inl rfl) (pe_op op_rep (pe_lst (pa_cons pe_int pa_nil)) pe_int))
      (C8.pss_cut (ps_set (i := 5) sc_law_rows.nd rfl (Or.inl rfl) (pe_call G_law_taken (hr.mono (by decide)) rfl T.g__law_taken T.k__law_taken T.bd__law_taken .nil pass0 (pa_cons (pv 0) (pa_cons (pv 2) pa_nil))))
      (C8.pss_cut (ps_set (i := 6) sc_law_rows.nd rfl (Or.inl rfl) pe_bl)
      (C8.pss_cut (ps_for PassesOwn.never rfl (pi_range1 rfl T.b_range (pa_cons pe_int pa_nil)) (pg_name (i := 7) sc_law_rows.nd rfl (Or.inl rfl)) (C8.pss_cut (ps_if (pt_cmpR op_lt (pv 5) pe_int (nomark _)) (pss_one (ps_ret (pv 1))) pss_nil)
      (C8.pss_cut (ps_set (i := 8) sc_law_rows.nd rfl (Or.inl rfl) (pe_ix ix_list (pe_dget (hu_of hr) (pv 0) pe_str (fun _ _ => rfl)) (pv 5) (fun _ _ => rfl)))
      (C8.pss_cut (ps_if (pt_val (pv 6)) (C8.pss_cut (ps_asg (pe_ix ix_list (pv 1) pe_int (fun _ _ => rfl)) (pg_sub (pv 4) (pe_ix ix_tup (pv 8) pe_int (fun _ _ => rfl)) set_list))
      (pss_one (ps_asg (pe_ix ix_list (pv 1) pe_int (fun _ _ => rfl)) (pg_sub (pv 4) (pe_ix ix_tup (pv 8) pe_int (fun _ _ => rfl)) set_list)))) pss_nil)
      (C8.pss_cut (ps_expr (pe_bm PySem.F.plainAttrs_list PySem.F.slot_list_append PySem.F.type_list_append mt_append (pv 3) (pa_cons (pe_tup (pa_cons pe_str (pa_cons (pe_ix ix_list (pv 4) (pe_ix ix_tup (pv 8) pe_int (fun _ _ => rfl)) (fun _ _ => rfl)) pa_nil))) pa_nil)))
      (C8.pss_cut (ps_expr (pe_bm PySem.F.plainAttrs_list PySem.F.slot_list_append PySem.F.type_list_append mt_append (pv 3) (pa_cons (pe_tup (pa_cons pe_str (pa_cons (pe_ix ix_list (pv 4) (pe_ix ix_tup (pv 8) pe_int (fun _ _ => rfl)) (fun _ _ => rfl)) pa_nil))) pa_nil)))
      (C8.pss_cut (ps_set (i := 9) sc_law_rows.nd rfl (Or.inl rfl) (pe_ix ix_list (pe_dget (hu_of hr) (pv 0) pe_str (fun _ _ => rfl)) (pv 5) (fun _ _ => rfl)))
      (pss_one (ps_if (PW.pt (pw_and (pt_cmpR op_eq (pe_ix ix_list (pv 9) pe_int (fun _ _ => rfl)) pe_int (nomark _)) (pw_and1 (pt_cmpR op_lt (pe_op op_add (pv 5) pe_int) (pe_callB call_len_seq (by rfl) T.b_len (by decide +kernel) (pa_cons (pe_dget (hu_of hr) (pv 0) pe_str (fun _ _ => rfl)) pa_nil)) (nomark _))))) (C8.pss_cut (ps_set (i := 5) sc_law_rows.nd rfl (Or.inl rfl) (pe_op op_add (pv 5) pe_int))
      (pss_one (ps_set (i := 6) sc_law_rows.nd rfl (Or.inl rfl) pe_bl))) (pss_one (ps_if (pt_cmpR op_lt (pe_ix ix_list (pv 9) pe_int (fun _ _ => rfl)) pe_int (nomark _)) (pss_one (ps_ret pe_non)) (C8.pss_cut (ps_set (i := 1) sc_law_rows.nd rfl (Or.inl rfl) (pe_lst (pa_cons (pe_ix ix_list (pv 4) (pe_ix ix_tup (pv 8) pe_int (fun _ _ => rfl)) (fun _ _ => rfl)) (pa_cons (pe_ix ix_list (pv 4) (pe_ix ix_tup (pv 8) pe_int (fun _ _ => rfl)) (fun _ _ => rfl)) pa_nil))))
      (C8.pss_cut (ps_if (pt_cmpR op_eq (pe_ix ix_list (pv 9) pe_int (fun _ _ => rfl)) pe_int (nomark _)) (pss_one (ps_set (i := 1) sc_law_rows.nd rfl (Or.inl rfl) (pe_lst (pa_cons (pe_ix ix_list (pv 9) pe_int (fun _ _ => rfl)) (pa_cons (pe_ix ix_list (pv 9) pe_int (fun _ _ => rfl)) pa_nil))))) pss_nil)
      (C8.pss_cut (ps_set (i := 5) sc_law_rows.nd rfl (Or.inl rfl) (pe_call G_law_taken (hr.mono (by decide)) rfl T.g__law_taken T.k__law_taken T.bd__law_taken .nil pass0 (pa_cons (pv 0) (pa_cons (pe_op op_add (pe_ix ix_tup (pv 8) pe_int (fun _ _ => rfl)) pe_int) pa_nil))))
      (pss_one (ps_set (i := 6) sc_law_rows.nd rfl (Or.inl rfl) pe_bl))))))))))))))))
      (pss_one (ps_ret (pv 1))))))), ?_⟩
    obtain ⟨rw, rg, od, ys, us, ws, h1, h2, h3, h4, h5, h6, h7⟩ := hs.o
    have l5 := ok.l5
    have hyl : ys.length = sh.rows.length := h3.1
    -- the registers
    refine ⟨fun σ H' => ∃ (τ' : Tg) (W : Addr), GE K τ τ' H H' ∧ EvT K τ' H' ev l ∧ At τ' H' R (.lst [.int q0.1, .int q0.2]) (5, 0, 0) ∧ At τ' H' W (.lst (z12.map V.int)) (6, 1, 0) ∧ σ = [some (.ref p), some (.ref R), some (.int idx), some (.ref ev), some (.ref W), none, none, none, none, none], ?_, ?_⟩
    · refine ⟨by show 1 ≤ sizeLine; decide, fun pl nl => ?_⟩
      have e1 : upd H pl (.lst [V.int 0]) pl = some (.lst [V.int 0]) := upd_same
      have g1 : GE K τ (tgN τ pl (0, 0, 0)) H (upd H pl (.lst [V.int 0])) := GE.refl.new nl
      have E1 := hE.new nl (x := (0, 0, 0)) (o := .lst [V.int 0])
      have R1 := hR.new nl (y := (0, 0, 0)) (u := .lst [V.int 0])
      generalize upd H pl (.lst [V.int 0]) = H1 at e1 g1 E1 R1 ⊢
      generalize tgN τ pl (0, 0, 0) = τ1 at g1 E1 R1
      exact ⟨pl, 12, _, rfl, rfl, e1, by decide, by decide, by show 1 * 12 ≤ 16777216; decide, fun W nW => ⟨_, W, g1.new nW, E1.new nW, R1.new nW, .mk, rfl⟩⟩
    rintro σ H1 ⟨τ1, W, G, hE, hR, hW, rfl⟩
    refine ⟨fun σ H' => H' = H1 ∧ σ = [some (.ref p), some (.ref R), some (.int idx), some (.ref ev), some (.ref W), some (.int (tkI (sh.tk idx))), none, none, none, none], ?_, ?_⟩
    · exact ⟨_, rfl, _, rfl, τ1, p, sh, idx, rfl, hs.st G.s (by simp) G.k, ok, rfl, rfl⟩
    rintro σ H1 ⟨rfl, rfl⟩
    refine ⟨fun σ H' => H' = H1 ∧ σ = [some (.ref p), some (.ref R), some (.int idx), some (.ref ev), some (.ref W), some (.int (tkI (sh.tk idx))), some (.bl true), none, none, none], ⟨rfl, rfl⟩, ?_⟩
    rintro σ H1 ⟨rfl, rfl⟩
    -- the loop
    generalize ht : rowsF sh 30 q0 (sh.tk idx) true z12 = tot at q
    refine ⟨fun σ H' => ∃ (τ' : Tg) (R' : Addr) (r : Int × Int) (l' : List Int) (o2 o4 o5 o6 o7 o8 o9 : Option V), GE K τ τ' H H' ∧ EvT K τ' H' ev l' ∧ At τ' H' R' (.lst [.int r.1, .int r.2]) (5, 0, 0) ∧ l' = l ++ tot.1 ∧ tot.2 = some r ∧ σ = [some (.ref p), some (.ref R'), o2, some (.ref ev), o4, o5, o6, o7, o8, o9], ?_, ?_⟩
    · refine ⟨30, rfl, by decide, by decide, ?_⟩
      refine for_range (lo := 0) (n := (30 : Int).toNat) (fun i σ H' => ∃ (τ' : Tg) (R' : Addr) (r : Int × Int) (ko : Option Nat) (en : Bool) (wd : List Int) (l' : List Int) (o7 o8 o9 : Option V), GE K τ τ' H H' ∧ EvT K τ' H' ev l' ∧ At τ' H' R' (.lst [.int r.1, .int r.2]) (5, 0, 0) ∧ At τ' H' W (.lst (wd.map V.int)) (6, 1, 0) ∧ wd.length = 12 ∧ l'.length ≤ l.length + 2 * i ∧ (∀ k, ko = some k → k < sh.rows.length) ∧ l' ++ (rowsF sh (30 - i) r ko en wd).1 = l ++ tot.1 ∧ (rowsF sh (30 - i) r ko en wd).2 = tot.2 ∧ σ = [some (.ref p), some (.ref R'), some (.int idx), some (.ref ev), some (.ref W), some (.int (tkI ko)), some (.bl en), o7, o8, o9]) ?_ ?_ ?_
      · refine ⟨τ1, R, q0, sh.tk idx, true, z12, l, none, none, none, G, hE, hR, hW, rfl, by omega, fun k e => ?_, by rw [ht], by rw [ht], rfl⟩
        · obtain ⟨_, _, h, _⟩ := Shp.tk_some ok e; exact h
      · rintro i σ H2 hi ⟨τ2, R', r, ko, en, wd, l', o7, o8, o9, G2, E2, R2, W2, lw, ll, hko, t1, t2, rfl⟩
        have hi : i < 30 := hi
        obtain ⟨n, hn⟩ : ∃ n, 30 - i = n + 1 := ⟨29 - i, by omega⟩
        rw [hn] at t1 t2
        -- the end
        refine ⟨fun σ H' => H' = H2 ∧ (∃ k, ko = some k) ∧ σ = [some (.ref p), some (.ref R'), some (.int idx), some (.ref ev), some (.ref W), some (.int (tkI ko)), some (.bl en), some (.int ((0 : Int) + (i : Nat))), o8, o9], ?_, ?_⟩
        · refine ⟨_, rfl, _, _, rfl, rfl, _, rfl, ?_⟩
          cases ko with
          | none =>
            refine iteT ⟨_, rfl, q _ τ2 H2 ?_ ?_ G2⟩
            · rw [← t2]; exact ⟨R', rfl, R2⟩
            · rw [← t1]
              show EvT K τ2 H2 ev (l' ++ [])
              rw [List.append_nil]; exact E2
          | some k =>
            refine ite3 (fun e => ?_) (fun _ => ⟨rfl, ⟨k, rfl⟩, rfl⟩)
            have e' : decide ((k : Int) < 0) = true := e
            have := of_decide_eq_true e'
            omega
        rintro σ H3 ⟨rfl, ⟨k, rfl⟩, rfl⟩
        have hk := hko k rfl
        have hku : k < sh.regs.length := by rw [ok.l]; exact hk
        obtain ⟨ur, eur, dur⟩ := h5.it k (d := regD sh.regs[k]) (by rw [List.getElem?_map, List.getElem?_eq_getElem hku]; rfl)
        obtain ⟨xx, yy, er, _⟩ := ok.rg k _ (List.getElem?_eq_getElem hku)
        rw [er] at dur
        obtain ⟨pa, xs, rfl, g1, g2⟩ := dur.ts
        obtain rfl := DTs.ints g2
        -- the region
        refine ⟨fun σ H' => H' = H3 ∧ σ = [some (.ref p), some (.ref R'), some (.int idx), some (.ref ev), some (.ref W), some (.int (k : Int)), some (.bl en), some (.int ((0 : Int) + (i : Nat))), some (.ref pa), o9], ⟨_, rfl, p, _, rfl, sg_regions (h1.st G2.s (by simp)).1, _, rfl, _, _, _, _, rfl, rfl, SqL.of (h4.st G2.s (by simp)).1, eur, rfl, rfl⟩, ?_⟩
        rintro σ H3 ⟨rfl, rfl⟩
        have ix0 : ∀ {l : List Int}, l.length = 12 → ixN (l.map V.int).length (2 * (k : Int)) = some (2 * k) := fun {l} h => by
          rw [show 2 * (k : Int) = ((2 * k : Nat) : Int) by omega]; exact ixN_nat (by rw [List.length_map]; omega)
        have ix1 : ∀ {l : List Int}, l.length = 12 → ixN (l.map V.int).length (2 * (k : Int) + 1) = some (2 * k + 1) := fun {l} h => by
          rw [show 2 * (k : Int) + 1 = ((2 * k + 1 : Nat) : Int) by omega]; exact ixN_nat (by rw [List.length_map]; omega)
        have at0 : ∀ {l : List Int}, l.length = 12 → atI (l.map V.int) (2 * (k : Int)) = some (.int (l.getD (2 * k) 0)) := fun {l} h => by
          rw [show 2 * (k : Int) = ((2 * k : Nat) : Int) by omega]
          exact atI_nat (by rw [List.getElem?_map, List.getD_eq_getElem?_getD, List.getElem?_eq_getElem (show 2 * k < l.length by omega)]; rfl)
        have at1' : ∀ {l : List Int}, l.length = 12 → atI (l.map V.int) (2 * (k : Int) + 1) = some (.int (l.getD (2 * k + 1) 0)) := fun {l} h => by
          rw [show 2 * (k : Int) + 1 = ((2 * k + 1 : Nat) : Int) by omega]
          exact atI_nat (by rw [List.getElem?_map, List.getD_eq_getElem?_getD, List.getElem?_eq_getElem (show 2 * k + 1 < l.length by omega)]; rfl)
        rw [rowsF_some] at t1 t2
        dsimp only at t1 t2
        -- entering
        refine ⟨fun σ H' => ∃ w1 : List Int, w1 = (if en = true then (wd.set (2 * k) r.1).set (2 * k + 1) r.2 else wd) ∧ GE K τ τ2 H H' ∧ EvT K τ2 H' ev l' ∧ At τ2 H' R' (.lst [.int r.1, .int r.2]) (5, 0, 0) ∧ At τ2 H' W (.lst (w1.map V.int)) (6, 1, 0) ∧ σ = [some (.ref p), some (.ref R'), some (.int idx), some (.ref ev), some (.ref W), some (.int (k : Int)), some (.bl en), some (.int ((0 : Int) + (i : Nat))), some (.ref pa), o9], ?_, ?_⟩
        · cases en with
          | false => exact ⟨_, rfl, _, rfl, iteF ⟨wd, rfl, G2, E2, R2, W2, rfl⟩⟩
          | true =>
            refine ⟨_, rfl, _, rfl, iteT ?_⟩
            refine ⟨fun σ H' => GE K τ τ2 H H' ∧ EvT K τ2 H' ev l' ∧ At τ2 H' R' (.lst [.int r.1, .int r.2]) (5, 0, 0) ∧ At τ2 H' W (.lst ((wd.set (2 * k) r.1).map V.int)) (6, 1, 0) ∧ σ = [some (.ref p), some (.ref R'), some (.int idx), some (.ref ev), some (.ref W), some (.int (k : Int)), some (.bl true), some (.int ((0 : Int) + (i : Nat))), some (.ref pa), o9], ?_, ?_⟩
            · refine ⟨_, rfl, _, _, _, _, rfl, rfl, SqL.of R2.1, atI_nat (j := 0) rfl, _, rfl, _, rfl, _, _, _, _, rfl, rfl, G2.k _ _ g1, atI_nat (j := 3) rfl, W, _, _, 2 * k, rfl, rfl, W2.1, ix0 lw, ?_⟩
              rw [← List.map_set]
              exact ⟨G2.tr ⟨Stp.refl.put (by rw [W2.2]; simp), KT.put W2.1⟩, EvT.ne E2 W2, R2.put W2.2 (by simp), .set W2.2, rfl⟩
            clear G2 E2 R2 W2
            rintro σ H3 ⟨G2, E2, R2, W2, rfl⟩
            refine ⟨_, rfl, _, _, _, _, rfl, rfl, SqL.of R2.1, atI_nat (j := 1) rfl, _, rfl, _, rfl, _, _, _, _, rfl, rfl, G2.k _ _ g1, atI_nat (j := 4) rfl, W, _, _, 2 * k + 1, rfl, rfl, W2.1, ix1 (by rw [List.length_set]; exact lw), ?_⟩
            rw [← List.map_set]
            exact ⟨_, rfl, G2.tr ⟨Stp.refl.put (by rw [W2.2]; simp), KT.put W2.1⟩, EvT.ne E2 W2, R2.put W2.2 (by simp), .set W2.2, rfl⟩
        clear G2 E2 R2 W2
        rintro σ H3 ⟨w1, ew, G2, E2, R2, W2, rfl⟩
        have lw1 : w1.length = 12 := by rw [ew]; split <;> simp [lw]
        rw [← ew] at t1 t2
        clear ew
        -- two puts
        refine ⟨fun σ H' => ∃ τ2 : Tg, GE K τ τ2 H H' ∧ EvT K τ2 H' ev (l' ++ [w1.getD (2 * k) 0]) ∧ At τ2 H' R' (.lst [.int r.1, .int r.2]) (5, 0, 0) ∧ At τ2 H' W (.lst (w1.map V.int)) (6, 1, 0) ∧ σ = [some (.ref p), some (.ref R'), some (.int idx), some (.ref ev), some (.ref W), some (.int (k : Int)), some (.bl en), some (.int ((0 : Int) + (i : Nat))), some (.ref pa), o9], ?_, ?_⟩
        · obtain ⟨es, e1, e2⟩ := id E2
          refine ⟨_, rfl, .inl ⟨rfl, _, SqL.of e1.1⟩, _, rfl, _, rfl, _, _, _, _, rfl, rfl, G2.k _ _ g1, atI_nat (j := 3) rfl, _, _, _, _, rfl, rfl, SqL.of W2.1, at0 lw1, by show 2 ≤ sizeLine; decide, fun t n => ?_⟩
          have d : DT K (upd H3 t (.tup [V.str "put", V.int (w1.getD (2 * k) 0)])) (.ref t) (evD (true, w1.getD (2 * k) 0)) := .tup (SqT.of upd_same) (.cons (.str _) (.cons (.int _) .nil))
          have E3 := E2.new n (x := (0, 0, 0)) (o := .tup [V.str "put", V.int (w1.getD (2 * k) 0)])
          obtain ⟨es3, f1, f2⟩ := id E3
          obtain ⟨E4, G4⟩ := E3.add f1.1 d
          exact ⟨ev, es3, _, rfl, rfl, f1.1, small1000 (by rw [E3.len f1.1]; omega), _, (G2.new n).tr G4, E4, (R2.new n).put f1.2 (by simp), (W2.new n).put f1.2 (by simp), rfl⟩
        clear G2 E2 R2 W2
        rintro σ H3 ⟨τ3, G2, E2, R2, W2, rfl⟩
        refine ⟨fun σ H' => ∃ τ2 : Tg, GE K τ τ2 H H' ∧ EvT K τ2 H' ev (l' ++ [w1.getD (2 * k) 0] ++ [w1.getD (2 * k + 1) 0]) ∧ At τ2 H' R' (.lst [.int r.1, .int r.2]) (5, 0, 0) ∧ At τ2 H' W (.lst (w1.map V.int)) (6, 1, 0) ∧ σ = [some (.ref p), some (.ref R'), some (.int idx), some (.ref ev), some (.ref W), some (.int (k : Int)), some (.bl en), some (.int ((0 : Int) + (i : Nat))), some (.ref pa), o9], ?_, ?_⟩
        · obtain ⟨es, e1, e2⟩ := id E2
          refine ⟨_, rfl, .inl ⟨rfl, _, SqL.of e1.1⟩, _, rfl, _, rfl, _, _, _, _, rfl, rfl, G2.k _ _ g1, atI_nat (j := 4) rfl, _, _, _, _, rfl, rfl, SqL.of W2.1, at1' lw1, by show 2 ≤ sizeLine; decide, fun t n => ?_⟩
          have d : DT K (upd H3 t (.tup [V.str "put", V.int (w1.getD (2 * k + 1) 0)])) (.ref t) (evD (true, w1.getD (2 * k + 1) 0)) := .tup (SqT.of upd_same) (.cons (.str _) (.cons (.int _) .nil))
          have E3 := E2.new n (x := (0, 0, 0)) (o := .tup [V.str "put", V.int (w1.getD (2 * k + 1) 0)])
          obtain ⟨es3, f1, f2⟩ := id E3
          obtain ⟨E4, G4⟩ := E3.add f1.1 d
          exact ⟨ev, es3, _, rfl, rfl, f1.1, small1000 (by rw [E3.len f1.1]; simp; omega), _, (G2.new n).tr G4, E4, (R2.new n).put f1.2 (by simp), (W2.new n).put f1.2 (by simp), rfl⟩
        clear G2 E2 R2 W2
        rintro σ H3 ⟨τ3, G2, E2, R2, W2, rfl⟩
        have ll2 : (l' ++ [w1.getD (2 * k) 0] ++ [w1.getD (2 * k + 1) 0]).length ≤ l.length + 2 * (i + 1) := by simp; omega
        have tl : ∀ z : List Int, l' ++ (w1.getD (2 * k) 0 :: w1.getD (2 * k + 1) 0 :: z) = (l' ++ [w1.getD (2 * k) 0] ++ [w1.getD (2 * k + 1) 0]) ++ z := fun z => by simp
        rw [tl] at t1
        generalize l' ++ [w1.getD (2 * k) 0] ++ [w1.getD (2 * k + 1) 0] = l2 at t1 E2 ll2
        -- the row
        have hky : k < ys.length := by omega
        have ay := h3.2 k ys[k] sh.rows[k] (List.getElem?_eq_getElem hky) (List.getElem?_eq_getElem hk)
        have ero : sh.ro k = sh.rows[k] := by unfold Shp.ro; rw [List.getD_eq_getElem?_getD, List.getElem?_eq_getElem hk]; rfl
        rw [← ero] at ay
        refine ⟨fun σ H' => H' = H3 ∧ σ = [some (.ref p), some (.ref R'), some (.int idx), some (.ref ev), some (.ref W), some (.int (k : Int)), some (.bl en), some (.int ((0 : Int) + (i : Nat))), some (.ref pa), some (.ref ys[k])], ⟨_, rfl, p, _, rfl, sg_rows (h1.st G2.s (by simp)).1, _, rfl, _, _, _, _, rfl, rfl, SqL.of (h2.st G2.s (by simp)).1, atI_nat (by rw [List.getElem?_map, List.getElem?_eq_getElem hky]; rfl), rfl, rfl⟩, ?_⟩
        rintro σ H3 ⟨rfl, rfl⟩
        have hy := (ay.st G2.s (by simp)).1
        have n1 : 30 - (i + 1) = n := by omega
        refine ⟨_, rfl, _, _, _, _, rfl, rfl, SqL.of hy, atI_nat (j := 0) rfl, rfl, _, rfl, ?_⟩
        by_cases hA : (sh.ro k).1 = 0 ∧ k + 1 < sh.rows.length
        · rw [if_pos hA] at t1 t2
          refine ite3 (fun _ => ?_) (fun e => absurd hA.1 (by simpa using e))
          refine ⟨_, rfl, _, _, rfl, rfl, _, rfl, p, _, rfl, sg_rows (h1.st G2.s (by simp)).1, rw, _, rfl, .inl (SqL.of (h2.st G2.s (by simp)).1), _, _, rfl, rfl, _, rfl, ite3 (fun _ => ?_) (fun e => absurd hA.2 (by simp at e; omega))⟩
          refine ⟨fun σ H' => H' = H3 ∧ σ = [some (.ref p), some (.ref R'), some (.int idx), some (.ref ev), some (.ref W), some (.int ((k : Int) + 1)), some (.bl en), some (.int ((0 : Int) + (i : Nat))), some (.ref pa), some (.ref ys[k])], ⟨_, rfl, _, _, rfl, rfl, rfl, rfl⟩, ?_⟩
          rintro σ H3 ⟨rfl, rfl⟩
          exact ⟨τ3, R', r, some (k + 1), false, w1, l2, _, _, _, G2, E2, R2, W2, lw1, ll2, (fun k2 e => by injection e with e; omega), by rw [n1]; exact t1, by rw [n1]; exact t2, rfl⟩
        rw [if_neg hA] at t1 t2
        by_cases h0 : (sh.ro k).1 = 0
        refine ite3 (fun _ => ⟨_, rfl, _, _, rfl, rfl, _, rfl, p, _, rfl, sg_rows (h1.st G2.s (by simp)).1, rw, _, rfl, .inl (SqL.of (h2.st G2.s (by simp)).1), _, _, rfl, rfl, _, rfl, ite3 (fun e => absurd ⟨h0, by simp at e; omega⟩ hA) (fun _ => ?_)⟩) (fun e => absurd h0 (by simpa using e))
        rotate_left
        refine ite3 (fun e => absurd (by simpa using e) h0) (fun _ => ?_)
        all_goals clear h0
        all_goals (
          refine ⟨_, rfl, _, _, _, _, rfl, rfl, SqL.of hy, atI_nat (j := 0) rfl, _, _, rfl, rfl, _, rfl, ite3 (fun e => ?_) (fun e => ?_)⟩
          · have hB : (sh.ro k).1 < 2 := by simpa using e
            rw [if_pos hB] at t1 t2
            exact q _ τ3 H3 (by rw [← t2]; rfl) (by rw [← t1]; simpa using E2) G2
          have hB : ¬ (sh.ro k).1 < 2 := by simpa using e
          rw [if_neg hB] at t1 t2
          refine ⟨fun σ H' => ∃ (τ4 : Tg) (R4 : Addr), GE K τ τ4 H H' ∧ EvT K τ4 H' ev l2 ∧ At τ4 H' R4 (.lst [.int (w1.getD (2 * k) 0), .int (w1.getD (2 * k + 1) 0)]) (5, 0, 0) ∧ At τ4 H' W (.lst (w1.map V.int)) (6, 1, 0) ∧ σ = [some (.ref p), some (.ref R4), some (.int idx), some (.ref ev), some (.ref W), some (.int (k : Int)), some (.bl en), some (.int ((0 : Int) + (i : Nat))), some (.ref pa), some (.ref ys[k])], ?_, ?_⟩
          · exact ⟨_, rfl, _, rfl, _, _, _, _, rfl, rfl, G2.k _ _ g1, atI_nat (j := 3) rfl, _, _, _, _, rfl, rfl, SqL.of W2.1, at0 lw1, _, rfl, _, rfl, _, _, _, _, rfl, rfl, G2.k _ _ g1, atI_nat (j := 4) rfl, _, _, _, _, rfl, rfl, SqL.of W2.1, at1' lw1, by show 2 ≤ sizeLine; decide, fun R4 n4 => ⟨_, R4, G2.new n4, E2.new n4, .mk, W2.new n4, rfl⟩⟩
          clear G2 E2 R2 W2
          rintro σ H4 ⟨τ4, R4, G2, E2, R2, W2, rfl⟩
          have hy := (ay.st G2.s (by simp)).1
          refine ⟨fun σ H' => ∃ (τ4 : Tg) (R5 : Addr) (r5 : Int × Int), r5 = (if (sh.ro k).1 = 3 then ((sh.ro k).2.1, (sh.ro k).2.2) else (w1.getD (2 * k) 0, w1.getD (2 * k + 1) 0)) ∧ GE K τ τ4 H H' ∧ EvT K τ4 H' ev l2 ∧ At τ4 H' R5 (.lst [.int r5.1, .int r5.2]) (5, 0, 0) ∧ At τ4 H' W (.lst (w1.map V.int)) (6, 1, 0) ∧ σ = [some (.ref p), some (.ref R5), some (.int idx), some (.ref ev), some (.ref W), some (.int (k : Int)), some (.bl en), some (.int ((0 : Int) + (i : Nat))), some (.ref pa), some (.ref ys[k])], ?_, ?_⟩
          · refine ⟨_, rfl, _, _, _, _, rfl, rfl, SqL.of hy, atI_nat (j := 0) rfl, rfl, _, rfl, ite3 (fun e => ?_) (fun e => ?_)⟩
            · have hC : (sh.ro k).1 = 3 := by simpa using e
              exact ⟨_, rfl, _, _, _, _, rfl, rfl, SqL.of hy, atI_nat (j := 1) rfl, _, rfl, _, _, _, _, rfl, rfl, SqL.of hy, atI_nat (j := 2) rfl, by show 2 ≤ sizeLine; decide, fun R5 n5 => ⟨_, R5, ((sh.ro k).2.1, (sh.ro k).2.2), by rw [if_pos hC], G2.new n5, E2.new n5, .mk, W2.new n5, rfl⟩⟩
            · have hC : ¬ (sh.ro k).1 = 3 := by simpa using e
              exact ⟨τ4, R4, (w1.getD (2 * k) 0, w1.getD (2 * k + 1) 0), by rw [if_neg hC], G2, E2, R2, W2, rfl⟩
          clear G2 E2 R2 W2
          rintro σ H4 ⟨τ5, R5, r5, er5, G2, E2, R2, W2, rfl⟩
          rw [← er5] at t1 t2
          clear er5
          refine ⟨fun σ H' => H' = H4 ∧ σ = [some (.ref p), some (.ref R5), some (.int idx), some (.ref ev), some (.ref W), some (.int (tkI (sh.tk ((sh.e k : Int) + 2)))), some (.bl en), some (.int ((0 : Int) + (i : Nat))), some (.ref pa), some (.ref ys[k])], ?_, ?_⟩
          · exact ⟨_, rfl, _, rfl, _, _, _, _, rfl, rfl, G2.k _ _ g1, atI_nat (j := 2) rfl, _, _, rfl, rfl, τ5, p, sh, _, rfl, hs.st G2.s (by simp) G2.k, ok, rfl, rfl⟩
          rintro σ H4 ⟨rfl, rfl⟩
          refine ⟨τ5, R5, r5, sh.tk ((sh.e k : Int) + 2), true, w1, l2, _, _, _, G2, E2, R2, W2, lw1, ll2, (fun k2 e => ?_), by rw [n1]; exact t1, by rw [n1]; exact t2, rfl⟩
          obtain ⟨_, _, h, _⟩ := Shp.tk_some ok e
          exact h)
      · rintro σ H2 ⟨τ2, R', r, ko, en, wd, l', o7, o8, o9, G2, E2, R2, W2, lw, ll, hko, t1, t2, rfl⟩
        refine ⟨τ2, R', r, l', _, _, _, _, _, _, _, G2, E2, R2, ?_, ?_, rfl⟩
        · rw [← t1]; show l' = l' ++ []; simp
        · rw [← t2]; rfl
    rintro σ H2 ⟨τ2, R', r, l', o2, o4, o5, o6, o7, o8, o9, G2, E2, R2, t1, t2, rfl⟩
    exact ⟨_, rfl, q _ τ2 H2 (by rw [t2]; exact ⟨R', rfl, R2⟩) (by rw [← t1]; exact E2) G2⟩
end

/-! ### the law's walk -/
def ShsR (K : PySem.W.Frag) (τ : Tg) (H : Hp) (sp : Addr) (ps : List Addr) (shs : List Shp) : Prop := At τ H sp (.lst (ps.map V.ref)) (3, 6, 0) ∧ ps.length = shs.length ∧ ∀ (k : Nat) (p : Addr) (s : Shp), ps[k]? = some p → shs[k]? = some s → ShR K τ H p s
theorem ShsR.st {K : PySem.W.Frag} {τ τ' : Tg} {Z : List Nat} {H H' : Hp} {sp : Addr} {ps : List Addr} {shs : List Shp} (h : ShsR K τ H sp ps shs) (t : Stp τ τ' Z H H') (n : 3 ∉ Z) (k : KT K H H') : ShsR K τ' H' sp ps shs :=
  ⟨h.1.st t n, h.2.1, fun j p s a b => (h.2.2 j p s a b).st t n k⟩
def wOwn (m : Nat) (s : Shp) (t : List Shp) : List Int × Option (Int × Int) := if s.kd = 0 then walkF (m + 1) t else s.own
theorem walkF_none {m : Nat} {s : Shp} {t : List Shp} (h : (wOwn m s t).2 = none) : walkF m (s :: t) = (befN m s.bf ++ ((wOwn m s t).1 ++ aftN m s.af), none) := by
  unfold walkF
  dsimp only
  rw [show (if s.kd = 0 then walkF (m + 1) t else s.own) = wOwn m s t from rfl, h]
theorem walkF_some {m : Nat} {s : Shp} {t : List Shp} {r : Int × Int} (h : (wOwn m s t).2 = some r) : walkF m (s :: t) = (befN m s.bf ++ ((wOwn m s t).1 ++ (rowsF s 30 r (s.tk (1 + (s.bf : Int))) true z12).1), (rowsF s 30 r (s.tk (1 + (s.bf : Int))) true z12).2) := by
  unfold walkF
  dsimp only
  rw [show (if s.kd = 0 then walkF (m + 1) t else s.own) = wOwn m s t from rfl, h]
def spWalk (K : PySem.W.Frag) (d : Nat) : Sp := fun vs H Q _ => ∃ (τ : Tg) (sp : Addr) (ps : List Addr) (shs : List Shp) (m : Nat) (s : Shp) (t : List Shp) (ev : Addr) (l : List Int), vs = [.ref sp, .int m, .ref ev] ∧ ShsR K τ H sp ps shs ∧ (∀ s ∈ shs, s.Ok) ∧ (∀ j s, shs[j]? = some s → s.kd = 0 → j + 1 < shs.length) ∧ shs.drop m = s :: t ∧ t.length = d ∧ EvT K τ H ev l ∧ l.length + 70 * (t.length + 1) ≤ 500 ∧
  ∀ (v : V) (τ' : Tg) (H' : Hp), RsV τ' H' (walkF m (s :: t)).2 v → EvT K τ' H' ev (l ++ (walkF m (s :: t)).1) → GE K τ τ' H H' → Q v H'
def spWalkL (K : PySem.W.Frag) (d : Nat) : Sp := fun vs H Q E => ∃ d', d = d' + 1 ∧ spWalk K d' vs H Q E
section
variable {P : Program} {w : World} {K : PySem.W.Frag} {mg : Str → Option Value} {base : Heap} {a : Ad}
theorem ok_law_walk_aux (T : Txt w K mg a) (d : Nat) (G_law_walk : FnOk P w K mg base CX0 (d + 2) a.f_law_walk a.d_law_walk ["shapes", "number", "events"] (spWalkL K d)) : FnOk P w K mg base CX0 (d + 3) a.f_law_walk a.d_law_walk ["shapes", "number", "events"] (spWalk K d) := by
  have G_law_rows : FnOk P w K mg base CX0 2 _ _ _ _ := ok_law_rows T
  refine T.F__law_walk.ok sc_law_walk (fun vs H Q E h => ?_) (fun cdv A outer s H vs Q E hr h => ?_)
  · obtain ⟨_, _, _, _, _, _, _, _, _, rfl, _⟩ := h; rfl
  · obtain ⟨τ, sp, ps, shs, m, s, t, ev, l, rfl, hS, ok, kd, hd, ht, hE, hl, q⟩ := h
    refine ⟨_, (C8.pss_cut (ps_set (i := 3) sc_law_walk.nd rfl (Or.inl rfl) (pe_ix ix_list (pv 0) (pv 1) (fun _ _ => rfl)))
      (C8.pss_cut (ps_for PassesOwn.never rfl (pi_range1 rfl T.b_range (pa_cons (pe_dget (hu_of hr) (pv 3) pe_str (fun _ _ => rfl)) pa_nil)) (pg_name (i := 4) sc_law_walk.nd rfl (Or.inl rfl)) (pss_one (ps_expr (pe_bm PySem.F.plainAttrs_list PySem.F.slot_list_append PySem.F.type_list_append mt_append (pv 2) (pa_cons (pe_tup (pa_cons pe_str (pa_cons (pe_op op_add (pe_op op_mul pe_int (pv 1)) (pv 4)) pa_nil))) pa_nil)))))
      (C8.pss_cut (ps_set (i := 5) sc_law_walk.nd rfl (Or.inl rfl) pe_non)
      (C8.pss_cut (ps_if (pt_cmpR op_eq (pe_dget (hu_of hr) (pv 3) pe_str (fun _ _ => rfl)) pe_int (nomark _)) (pss_one (ps_set (i := 5) sc_law_walk.nd rfl (Or.inl rfl) (pe_call G_law_walk (hr.mono (by omega)) rfl T.g__law_walk T.k__law_walk T.bd__law_walk .nil pass0 (pa_cons (pv 0) (pa_cons (pe_op op_add (pv 1) pe_int) (pa_cons (pv 2) pa_nil)))))) (pss_one (ps_if (pt_cmpR op_eq (pe_dget (hu_of hr) (pv 3) pe_str (fun _ _ => rfl)) pe_int (nomark _)) (pss_one (ps_expr (pe_bm PySem.F.plainAttrs_list PySem.F.slot_list_append PySem.F.type_list_append mt_append (pv 2) (pa_cons (pe_tup (pa_cons pe_str (pa_cons pe_int pa_nil))) pa_nil)))) (pss_one (ps_if (pt_cmpR op_eq (pe_dget (hu_of hr) (pv 3) pe_str (fun _ _ => rfl)) pe_int (nomark _)) (pss_one (ps_set (i := 5) sc_law_walk.nd rfl (Or.inl rfl) (pe_lst (pa_cons pe_int (pa_cons (pe_dget (hu_of hr) (pv 3) pe_str (fun _ _ => rfl)) pa_nil))))) (pss_one (ps_set (i := 5) sc_law_walk.nd rfl (Or.inl rfl) (pe_lst (pa_cons (pe_dget (hu_of hr) (pv 3) pe_str (fun _ _ => rfl)) (pa_cons (pe_dget (hu_of hr) (pv 3) pe_str (fun _ _ => rfl)) pa_nil))))))))))
      (C8.pss_cut (ps_if (pt_cmpR op_notN (pv 5) pe_non (nomark _)) (pss_one (ps_ret (pe_call G_law_rows (hr.mono (by omega)) rfl T.g__law_rows T.k__law_rows T.bd__law_rows .nil pass0 (pa_cons (pv 3) (pa_cons (pv 5) (pa_cons (pe_dget (hu_of hr) (pv 3) pe_str (fun _ _ => rfl)) (pa_cons (pv 2) pa_nil))))))) pss_nil)
      (C8.pss_cut (ps_for PassesOwn.never rfl (pi_range1 rfl T.b_range (pa_cons (pe_dget (hu_of hr) (pv 3) pe_str (fun _ _ => rfl)) pa_nil)) (pg_name (i := 4) sc_law_walk.nd rfl (Or.inl rfl)) (pss_one (ps_expr (pe_bm PySem.F.plainAttrs_list PySem.F.slot_list_append PySem.F.type_list_append mt_append (pv 2) (pa_cons (pe_tup (pa_cons pe_str (pa_cons (pe_op op_add (pe_op op_add (pe_op op_mul pe_int (pv 1)) pe_int) (pv 4)) pa_nil))) pa_nil)))))
      (pss_one (ps_ret pe_non)))))))), ?_⟩
    have hs0 : shs[m]? = some s := by
      have := congrArg (fun l => l[0]?) hd
      simpa using this
    have hd2 : shs.drop (m + 1) = t := by
      have := congrArg List.tail hd
      simpa using this
    have hml : m < shs.length := (List.getElem?_eq_some_iff.mp hs0).1
    have hmp : m < ps.length := by rw [hS.2.1]; exact hml
    have ok0 := ok s (List.mem_of_getElem? hs0)
    have hp := hS.2.2 m ps[m] s (List.getElem?_eq_getElem hmp) hs0
    have b1 := ok0.b1
    have a1 := ok0.a1
    obtain ⟨rw, rg, od, ys, us, ws, h1, h2, h3, h4, h5, h6, h7⟩ := hp.o
    -- the shape
    refine ⟨fun σ H' => H' = H ∧ σ = [some (.ref sp), some (.int (m : Int)), some (.ref ev), some (.ref ps[m]), none, none], ⟨_, rfl, _, rfl, _, _, _, _, rfl, rfl, SqL.of hS.1.1, atI_nat (by rw [List.getElem?_map, List.getElem?_eq_getElem hmp]; rfl), rfl, rfl⟩, ?_⟩
    rintro σ H1 ⟨rfl, rfl⟩
    have put : ∀ {τ1 : Tg} {H1 : Hp} {l1 : List Int} {x : Int} {t1 : Addr}, EvT K τ1 H1 ev l1 → H1 t1 = none → ∃ es, upd H1 t1 (.tup [V.str "put", V.int x]) ev = some (.lst es) ∧ es.length = l1.length ∧ EvT K (tgN τ1 t1 (0, 0, 0)) (upd (upd H1 t1 (.tup [V.str "put", V.int x])) ev (.lst (es ++ [.ref t1]))) ev (l1 ++ [x]) ∧ GE K τ1 (tgN τ1 t1 (0, 0, 0)) H1 (upd (upd H1 t1 (.tup [V.str "put", V.int x])) ev (.lst (es ++ [.ref t1]))) := fun {τ1 H1 l1 x t1} E n => by
      have d : DT K (upd H1 t1 (.tup [V.str "put", V.int x])) (.ref t1) (evD (true, x)) := .tup (SqT.of upd_same) (.cons (.str _) (.cons (.int _) .nil))
      have E3 := E.new n (x := (0, 0, 0)) (o := .tup [V.str "put", V.int x])
      obtain ⟨es3, f1, f2⟩ := id E3
      obtain ⟨E4, G4⟩ := E3.add f1.1 d
      exact ⟨es3, f1.1, E3.len f1.1, E4, (GE.refl.new n).tr G4⟩
    -- the puts before
    refine ⟨fun σ H' => ∃ (τ' : Tg) (x4 : Option V), GE K τ τ' H1 H' ∧ EvT K τ' H' ev (l ++ befN m s.bf) ∧ σ = [some (.ref sp), some (.int (m : Int)), some (.ref ev), some (.ref ps[m]), x4, none], ?_, ?_⟩
    · refine ⟨_, rfl, ps[m], _, rfl, sg_before h1.1, _, rfl, by omega, by omega, ?_⟩
      refine for_range (lo := 0) (n := (s.bf : Int).toNat) (fun k σ H' => ∃ (τ' : Tg) (x4 : Option V), GE K τ τ' H1 H' ∧ EvT K τ' H' ev (l ++ befN m k) ∧ σ = [some (.ref sp), some (.int (m : Int)), some (.ref ev), some (.ref ps[m]), x4, none]) ⟨τ, none, GE.refl, by rw [show befN m 0 = [] from rfl, List.append_nil]; exact hE, rfl⟩ ?_ ?_
      · rintro k σ H2 hk ⟨τ2, x4, G2, E2, rfl⟩
        rw [show (0 : Int) + (k : Nat) = (k : Int) by omega]
        obtain ⟨es, e1, e2⟩ := id E2
        refine ⟨_, rfl, .inl ⟨rfl, _, SqL.of e1.1⟩, _, rfl, _, _, rfl, rfl, .inl ⟨by decide, by decide⟩, _, rfl, _, _, rfl, rfl, by show 2 ≤ sizeLine; decide, fun t1 n1 => ?_⟩
        obtain ⟨es3, f1, f2, E4, G4⟩ := put (x := 100 * (m : Int) + (k : Int)) E2 n1
        refine ⟨ev, es3, _, rfl, rfl, f1, small1000 (by rw [f2]; simp [befN]; omega), _, _, G2.tr G4, ?_, rfl⟩
        rw [show befN m (k + 1) = befN m k ++ [100 * (m : Int) + (k : Int)] by unfold befN; rw [List.range_succ, List.map_append]; rfl, ← List.append_assoc]
        exact E4
      · rintro σ H2 ⟨τ2, x4, G2, E2, rfl⟩
        exact ⟨τ2, _, G2, E2, rfl⟩
    rintro σ H2 ⟨τ2, x4, G2, E2, rfl⟩
    have lb : (l ++ befN m s.bf).length ≤ l.length + 4 := by simp [befN]; omega
    refine ⟨fun σ H' => H' = H2 ∧ σ = [some (.ref sp), some (.int (m : Int)), some (.ref ev), some (.ref ps[m]), x4, some .non], ⟨rfl, rfl⟩, ?_⟩
    rintro σ H2 ⟨rfl, rfl⟩
    have lw : (wOwn m s t).1.length ≤ 70 * t.length + 1 := by
      unfold wOwn
      split
      · have := walkF_len t (m + 1) fun x hx => ok x (List.mem_of_mem_drop (by rw [hd2]; exact hx))
        omega
      · have := s.own_len; omega
    -- what is raised
    refine ⟨fun σ H' => ∃ (τ' : Tg) (v : V), GE K τ τ' H1 H' ∧ RsV τ' H' (wOwn m s t).2 v ∧ EvT K τ' H' ev (l ++ befN m s.bf ++ (wOwn m s t).1) ∧ σ = [some (.ref sp), some (.int (m : Int)), some (.ref ev), some (.ref ps[m]), x4, some v], ?_, ?_⟩
    · refine ⟨_, rfl, ps[m], _, rfl, sg_kind (h1.st G2.s (by simp)).1, rfl, _, rfl, ite3 (fun e => ?_) (fun e => ?_)⟩
      · have h0 : s.kd = 0 := by simpa using e
        have hlt := kd m s hs0 h0
        obtain ⟨s1, t1, et⟩ : ∃ s1 t1, t = s1 :: t1 := by
          cases t with
          | nil =>
            have := congrArg List.length hd2
            simp at this; omega
          | cons a b => exact ⟨a, b, rfl⟩
        have ew : wOwn m s t = walkF (m + 1) (s1 :: t1) := by unfold wOwn; rw [if_pos h0, et]
        have el : t.length = t1.length + 1 := by rw [et]; rfl
        refine ⟨_, rfl, _, rfl, _, _, rfl, rfl, _, rfl, t1.length, by omega, τ2, sp, ps, shs, m + 1, s1, t1, ev, _, by rw [show ((m + 1 : Nat) : Int) = (m : Int) + 1 by omega]; rfl, hS.st G2.s (by simp) G2.k, ok, kd, by rw [hd2, et], rfl, E2, by omega, fun v τ3 H3 r3 E3 G3 => ?_⟩
        rw [ew]
        exact ⟨τ3, v, G2.tr G3, r3, E3, rfl⟩
      have h0 : ¬ s.kd = 0 := by simpa using e
      have ew : wOwn m s t = s.own := by unfold wOwn; rw [if_neg h0]
      rw [ew]
      unfold Shp.own
      refine ⟨_, rfl, ps[m], _, rfl, sg_kind (h1.st G2.s (by simp)).1, rfl, _, rfl, ite3 (fun e => ?_) (fun e => ?_)⟩
      · have hA : s.kd = 1 := by simpa using e
        rw [if_pos hA]
        obtain ⟨es, e1, e2⟩ := id E2
        refine ⟨_, rfl, .inl ⟨rfl, _, SqL.of e1.1⟩, by show 2 ≤ sizeLine; decide, fun t1 n1 => ?_⟩
        obtain ⟨es3, f1, f2, E4, G4⟩ := put (x := 55) E2 n1
        exact ⟨ev, es3, _, rfl, rfl, f1, small1000 (by rw [f2]; omega), _, _, G2.tr G4, rfl, E4, rfl⟩
      have hA : ¬ s.kd = 1 := by simpa using e
      rw [if_neg hA]
      refine ⟨_, rfl, ps[m], _, rfl, sg_kind (h1.st G2.s (by simp)).1, rfl, _, rfl, ite3 (fun e => ?_) (fun e => ?_)⟩
      · have hB : s.kd = 2 := by simpa using e
        rw [if_pos hB]
        exact ⟨_, rfl, ps[m], _, rfl, sg_place (h1.st G2.s (by simp)).1, by show 2 ≤ sizeLine; decide, fun R n => ⟨_, .ref R, G2.new n, ⟨R, rfl, .mk⟩, by rw [List.append_nil]; exact E2.new n, rfl⟩⟩
      have hB : ¬ s.kd = 2 := by simpa using e
      rw [if_neg hB]
      exact ⟨_, rfl, ps[m], _, rfl, sg_number (h1.st G2.s (by simp)).1, _, rfl, ps[m], _, rfl, sg_place (h1.st G2.s (by simp)).1, by show 2 ≤ sizeLine; decide, fun R n => ⟨_, .ref R, G2.new n, ⟨R, rfl, .mk⟩, by rw [List.append_nil]; exact E2.new n, rfl⟩⟩
    clear G2 E2
    rintro σ H2 ⟨τ2, v, G2, r2, E2, rfl⟩
    -- the rows
    refine ⟨fun σ H' => H' = H2 ∧ (wOwn m s t).2 = none ∧ σ = [some (.ref sp), some (.int (m : Int)), some (.ref ev), some (.ref ps[m]), x4, some v], ?_, ?_⟩
    · cases ex : (wOwn m s t).2 with
      | none =>
        rw [ex] at r2
        obtain rfl : v = .non := r2
        exact ⟨_, rfl, rfl, _, rfl, iteF ⟨rfl, rfl, rfl⟩⟩
      | some rr =>
        rw [ex] at r2
        obtain ⟨R, rfl, hR⟩ := r2
        refine ⟨_, rfl, rfl, _, rfl, iteT ?_⟩
        refine ⟨_, rfl, _, rfl, _, rfl, ps[m], _, rfl, sg_call (h1.st G2.s (by simp)).1, _, rfl, τ2, ps[m], s, R, rr, _, ev, _, rfl, hp.st G2.s (by simp) G2.k, ok0, hR, E2, by simp at lb ⊢; omega, fun v3 τ3 H3 r3 E3 G3 => ?_⟩
        refine q v3 τ3 H3 ?_ ?_ (G2.tr G3)
        · rw [walkF_some ex]; exact r3
        · rw [walkF_some ex]
          simpa using E3
    rintro σ H3 ⟨rfl, ex, rfl⟩
    refine ⟨fun σ H' => ∃ (τ' : Tg) (x4 : Option V), GE K τ τ' H1 H' ∧ EvT K τ' H' ev (l ++ befN m s.bf ++ (wOwn m s t).1 ++ aftN m s.af) ∧ σ = [some (.ref sp), some (.int (m : Int)), some (.ref ev), some (.ref ps[m]), x4, some v], ?_, ?_⟩
    · refine ⟨_, rfl, ps[m], _, rfl, sg_after (h1.st G2.s (by simp)).1, _, rfl, by omega, by omega, ?_⟩
      refine for_range (lo := 0) (n := (s.af : Int).toNat) (fun k σ H' => ∃ (τ' : Tg) (x4 : Option V), GE K τ τ' H1 H' ∧ EvT K τ' H' ev (l ++ befN m s.bf ++ (wOwn m s t).1 ++ aftN m k) ∧ σ = [some (.ref sp), some (.int (m : Int)), some (.ref ev), some (.ref ps[m]), x4, some v]) ⟨τ2, x4, G2, by rw [show aftN m 0 = [] from rfl, List.append_nil]; exact E2, rfl⟩ ?_ ?_
      · rintro k σ H4 hk ⟨τ4, x4, G4, E4, rfl⟩
        rw [show (0 : Int) + (k : Nat) = (k : Int) by omega]
        obtain ⟨es, e1, e2⟩ := id E4
        refine ⟨_, rfl, .inl ⟨rfl, _, SqL.of e1.1⟩, _, rfl, _, _, rfl, rfl, .inl ⟨by decide, by decide⟩, _, _, rfl, rfl, _, rfl, _, _, rfl, rfl, by show 2 ≤ sizeLine; decide, fun t1 n1 => ?_⟩
        obtain ⟨es3, f1, f2, E5, G5⟩ := put (x := 100 * (m : Int) + 50 + (k : Int)) E4 n1
        refine ⟨ev, es3, _, rfl, rfl, f1, small1000 (by rw [f2]; simp [aftN] at lb ⊢; omega), _, _, G4.tr G5, ?_, rfl⟩
        rw [show aftN m (k + 1) = aftN m k ++ [100 * (m : Int) + 50 + (k : Int)] by unfold aftN; rw [List.range_succ, List.map_append]; rfl, ← List.append_assoc]
        exact E5
      · rintro σ H4 ⟨τ4, x4, G4, E4, rfl⟩
        exact ⟨τ4, _, G4, E4, rfl⟩
    clear G2 E2
    rintro σ H4 ⟨τ4, x4, G4, E4, rfl⟩
    refine q .non τ4 H4 ?_ ?_ G4
    · rw [walkF_none ex]; rfl
    · rw [walkF_none ex]
      simpa using E4
theorem ok_law_walk (T : Txt w K mg a) : ∀ d : Nat, FnOk P w K mg base CX0 (d + 3) a.f_law_walk a.d_law_walk ["shapes", "number", "events"] (spWalk K d)
  | 0 => ok_law_walk_aux T 0 ⟨fun _ _ _ _ h => by obtain ⟨_, e, _⟩ := h; omega, fun _ _ _ _ _ _ _ _ _ _ _ _ _ h => by obtain ⟨_, e, _⟩ := h; omega⟩
  | d + 1 => ok_law_walk_aux T (d + 1) (by
    have := ok_law_walk T d
    rw [show d + 3 = d + 1 + 2 by omega] at this
    exact FnOk.imp this fun vs H Q E ⟨d', e, h⟩ => by
      obtain rfl : d = d' := by omega
      exact h)
def spWalkA (K : PySem.W.Frag) : Sp := fun vs H Q E => ∃ d, d ≤ 4 ∧ spWalk K d vs H Q E
theorem ok_law_walkA (T : Txt w K mg a) : FnOk P w K mg base CX0 7 a.f_law_walk a.d_law_walk ["shapes", "number", "events"] (spWalkA K) :=
  ⟨fun vs H Q E ⟨d, _, h⟩ => (ok_law_walk (P := P) (base := base) T d).len vs H Q E h, fun A outer s H args us vs Q E hr he hb hv ⟨d, l, h⟩ => ((ok_law_walk (P := P) (base := base) T d).mono (by omega)).run A outer s H args us vs Q E hr he hb hv h⟩
end

theorem KBR_kw2_1 {v1 v2 : V} {u1 u2 : Value} {zs : List V} {ws : List Value} (a1 : RelV v1 u1) (a2 : RelV v2 u2) (r : Vals zs ws) : Vals (kw2_1 [v1, v2] zs) (kw2_1 [u1, u2] ws) := by
  cases r with
  | nil => exact .nil
  | cons b1 r => cases r with
    | nil => exact .cons a1 (.cons a2 (.cons b1 .nil))
    | cons b2 r => exact .nil
theorem KB_run_module {K : PySem.W.Frag} {f : Addr} {fd : FuncData} (F : Fun K "run_module" "run_module" s_run_module f fd) : KBinds K fd ["module", "inputs", "fuel"] ["fuel"] kw2_1 kw2_1 := by
  obtain ⟨oc, od, kV, doc, pm, an, cdv, ct, osl, rfl, lk, hcd⟩ := F.ex
  refine ⟨fun s us ws hk hl => ?_, fun r1 r2 => ?_⟩
  · match us, ws, hl with
    | [u0, u1], [y0], _ => exact .of_eq rfl
    | [], _, hl => exact absurd hl (by show ¬ ([] : List Value).length = _; decide)
    | [_], _, hl => exact absurd hl (by show ¬ ([] : List Value).length = _; decide)
    | _ :: _ :: _ :: _, _, hl => exact absurd hl (by show ¬ ([] : List Value).length = _; decide)
    | [_, _], [], hl => exact absurd hl (by show ¬ ([] : List Value).length = _; decide)
    | [_, _], _ :: _ :: _, hl => exact absurd hl (by show ¬ ([] : List Value).length = _; decide)
  · cases r1 with
    | nil => exact .nil
    | cons a1 r1 => cases r1 with
      | nil => exact .nil
      | cons a2 r1 => cases r1 with
        | cons a3 r1 => exact .nil
        | nil => exact KBR_kw2_1 a1 a2 r2
/-! ### modules -/
def spMoI (C : Addr) : Sp := fun vs H Q _ => ∃ (p dx : Addr) (v0 v1 v2 : V), vs = [.ref p, v0, v1, v2] ∧ H p = some (.ins C dx []) ∧ Q .non (upd H p (.ins C dx (moF v0 v1 v2)))
section
variable {P : Program} {w : World} {K : PySem.W.Frag} {mg : Str → Option Value} {base : Heap} {a : Ad}
theorem ok_Module___init__ (T : Txt w K mg a) : FnOk P w K mg base CX0 1 a.f_Module___init__ a.d_Module___init__ ["self", "units", "names", "places"] (spMoI a.C_Module) := by
  refine T.F_Module___init__.ok sc_Module___init__ (fun vs H Q E h => ?_) (fun cdv A outer s H vs Q E hr h => ?_)
  · obtain ⟨_, _, _, _, _, rfl, _⟩ := h; rfl
  · obtain ⟨p, dx, v0, v1, v2, rfl, hp, q⟩ := h
    refine ⟨_, (pss_cons (ps_fld (pv 0) (pv 1) rfl)
      (pss_cons (ps_fld (pv 0) (pv 2) rfl)
      (pss_one (ps_fld (pv 0) (pv 3) rfl)))), ?_⟩
    refine ⟨_, rfl, _, rfl, p, a.C_Module, dx, _, rfl, hp, T.cl_Module, T.n_Module_units, (by show 0 < 1000; decide), ?_⟩
    refine ⟨_, rfl, _, rfl, p, a.C_Module, dx, _, rfl, upd_same, T.cl_Module, T.n_Module_names, (by show 1 < 1000; decide), ?_⟩
    rw [upd_upd]
    refine ⟨_, rfl, _, rfl, p, a.C_Module, dx, _, rfl, upd_same, T.cl_Module, T.n_Module_places, Nat.lt_of_le_of_lt (pf_lt (pf_lt (Nat.le_refl 0))) (by decide : 2 < 1000), ?_⟩
    rw [upd_upd]
    exact q
end

/-! ### shapes of what is due -/
theorem okA_str {n : Nat} {x : Str} (h : PyData.canLay0 (.str x) = true) : okA n (.str x) := by cases n <;> exact h
theorem okA_int {n : Nat} {i : Int} : okA n (.int i) := by cases n <;> trivial
theorem okA_ints {n : Nat} {l : List Int} (h : l.length ≤ 1000000) : okA (n + 1) (.tuple (l.map .int)) := by
  refine ⟨fun d hd => ?_, by rw [List.length_map]; exact h⟩
  obtain ⟨i, _, rfl⟩ := List.mem_map.mp hd
  exact okA_int
theorem okA_ev {n : Nat} (z : Bool × Int) : okA (n + 1) (evD z) := by
  refine ⟨fun d hd => ?_, by simp⟩
  simp only [List.mem_cons, List.not_mem_nil, or_false] at hd
  rcases hd with rfl | rfl
  · cases z.1
    · exact okA_str (by unfold PyData.canLay0; decide +kernel)
    · exact okA_str (by unfold PyData.canLay0; decide +kernel)
  · exact okA_int
theorem okA_evs {n : Nat} {l : List (Bool × Int)} (h : l.length ≤ 1000000) : okA (n + 2) (.tuple (l.map evD)) := by
  refine ⟨fun d hd => ?_, by rw [List.length_map]; exact h⟩
  obtain ⟨z, _, rfl⟩ := List.mem_map.mp hd
  exact okA_ev z
def nms5x : List Str := ["constraint_error", "program_error", "storage_error", "end_error", "mine"]
theorem okA_en5x {n : Nat} {E : Ev} (hn : E.nms = nms5x) (e : En) : okA (n + 1) (enD E e) := by
  cases e with
  | rais x p =>
    refine ⟨fun d hd => ?_, by simp⟩
    simp only [List.mem_cons, List.not_mem_nil, or_false] at hd
    rcases hd with rfl | rfl | rfl | rfl
    · exact okA_str (by unfold PyData.canLay0; decide +kernel)
    · refine okA_str ?_
      rw [hn]
      show PyData.canLay0 (.str (nms5x.getD x.toNat "")) = true
      generalize x.toNat = k
      rcases k with _ | _ | _ | _ | _ | _ | k
      all_goals (unfold PyData.canLay0; first | decide +kernel | (rw [List.getD_eq_getElem?_getD, List.getElem?_eq_none (by simp [nms5x])]; decide +kernel))
    · exact okA_int
    · exact okA_int
  | _ =>
    refine ⟨fun d hd => ?_, by simp⟩
    simp only [List.mem_cons, List.not_mem_nil, or_false] at hd
    rw [hd]
    exact okA_str (by unfold PyData.canLay0; decide +kernel)
theorem okA_res5x {E : Ev} (hn : E.nms = nms5x) {l : List (Bool × Int)} {e : En} (h : l.length ≤ 1000000) : okA 3 (.tuple [.tuple (l.map evD), enD E e]) := by
  refine ⟨fun d hd => ?_, by simp⟩
  simp only [List.mem_cons, List.not_mem_nil, or_false] at hd
  rcases hd with rfl | rfl
  · exact okA_evs h
  · exact okA_en5x hn e

/-! ### the module of the law -/
def sh0 : Shp := ⟨0, 0, [], [], 0, 0, 0, []⟩
def evX (shs : List Shp) (inp : List Int) (pls : List (Int × Int)) : Ev := ⟨(List.range shs.length).map fun k => unU k (shs.getD k sh0), inp, nms5x, pls⟩
theorem evX_at {shs : List Shp} {inp : List Int} {pls : List (Int × Int)} {k : Nat} {s : Shp} (h : shs[k]? = some s) : (evX shs inp pls).us[k]? = some (unU k s) := by
  have hk := (List.getElem?_eq_some_iff.mp h).1
  show ((List.range shs.length).map fun k => unU k (shs.getD k sh0))[k]? = _
  rw [List.getElem?_map, List.getElem?_range hk]
  show some (unU k (shs.getD k sh0)) = _
  rw [List.getD_eq_getElem?_getD, h]; rfl
theorem evX_ex {shs : List Shp} {inp : List Int} {pls : List (Int × Int)} (ok : ∀ s ∈ shs, s.Ok) (h4 : pls.length = 4) : EX (evX shs inp pls) shs :=
  ⟨ok, by show ((List.range shs.length).map _).length = _; simp, fun m s h => by
    unfold Ev.u
    rw [List.getD_eq_getElem?_getD, evX_at h]; rfl, rfl, h4⟩
def enX : Option (Int × Int) → En
  | none => .norm
  | some q => .rais q.1 q.2
/-- the law's run -/
theorem law_run {shs : List Shp} {inp : List Int} {pls : List (Int × Int)} {fu : Int} (ok : ∀ s ∈ shs, s.Ok) (h4 : pls.length = 4) (kd : ∀ j s, shs[j]? = some s → s.kd = 0 → j + 1 < shs.length) (l0 : 0 < shs.length) (l4 : shs.length ≤ 4) (hf : (shs.length : Int) ≤ fu) :
    ∃ S', Gx (evX shs inp pls) (st0 (evX shs inp pls) fu) S' ∧ S'.ev = puL (walkF 0 shs).1 ∧ S'.en = some (enX (walkF 0 shs).2) ∧ ∀ q, (walkF 0 shs).2 = some q → Gd q := by
  have X := evX_ex (inp := inp) ok h4
  cases es : shs with
  | nil => rw [es] at l0; simp at l0
  | cons s t =>
    rw [← es]
    have R : RX (evX shs inp pls) [] := ⟨fun c h => (List.not_mem_nil h).elim, (fun c t e => by cases e), fun n p a b c d => ⟨⟨a, by rw [X.n5]; exact b⟩, c, by rw [X.p4]; exact d⟩, fun c h => (List.not_mem_nil h).elim⟩
    have hl : shs.length = t.length + 1 := by rw [es]; rfl
    obtain ⟨S', g, f⟩ := unit_run X t s 0 [] [] fu none (by rw [List.drop_zero, es]) kd R (fun j e => by cases e) (by omega) (by simp; omega) (by simp; omega)
    have e0 : st0 (evX shs inp pls) fu = ⟨[⟨0, 0, z12, [], none⟩], [], 0, fu, none⟩ := by
      unfold st0 newA
      rw [X.u 0 s (by rw [es]; rfl)]
      rfl
    rw [← es] at f
    rw [e0]
    refine ⟨S', g, ?_⟩
    rw [List.nil_append] at f
    cases er : (walkF 0 shs).2 with
    | none =>
      rw [er] at f
      obtain ⟨fu', f1, _⟩ := f
      obtain ⟨st1, rfl⟩ := f1 rfl
      exact ⟨rfl, rfl, fun q e => by cases e⟩
    | some q =>
      rw [er] at f
      obtain ⟨fu', st1, gd, rfl⟩ := f
      exact ⟨rfl, rfl, fun q' e => by injection e with e; subst e; exact gd⟩

/-! ### the law -/
def spLaw (K : PySem.W.Frag) : Sp := fun vs H Q _ => ∃ (a : Addr) (ns : List Int), vs = [.ref a] ∧ SqL K H a (ns.map V.int) ∧ ns.length ≤ 63 ∧ ∀ H', Q (.bl true) H'
theorem ShR.put6 {K : PySem.W.Frag} {τ : Tg} {H : Hp} {p D : Addr} {s : Shp} {l : List V} {o : HO} (h : ShR K τ H p s) (e : At τ H D (.lst l) (3, 6, 0)) : ShR K τ (upd H D o) p s := by
  obtain ⟨rw, rg, od, ys, us, ws, h1, h2, h3, h4, h5, h6, h7⟩ := h.o
  exact ⟨⟨rw, rg, od, ys, us, ws, h1.put e.2 (by simp), h2.put e.2 (by simp), h3.put e.2 (by simp), h4.put e.2 (by simp), h5.keep (KT.put e.1), h6.put e.2 (by simp), h7.keep (KT.put e.1)⟩⟩
theorem UnX.mono {K : PySem.W.Frag} {a : Ad} {H H' : Hp} {u : Addr} {i : UI} (h : UnX K a H u i) (s : Same H H') : UnX K a H' u i := by
  obtain ⟨dx, ca, ra, us, ws, h1, h2, h3, h4, h5⟩ := h
  exact ⟨dx, ca, ra, us, ws, s _ _ h1, KT.same s _ _ h2, h3.keep (KT.same s), KT.same s _ _ h4, h5.keep (KT.same s)⟩
theorem UnX.put {K : PySem.W.Frag} {a : Ad} {H : Hp} {u D : Addr} {i : UI} {l : List V} {o : HO} (h : UnX K a H u i) (e : H D = some (.lst l)) : UnX K a (upd H D o) u i := by
  obtain ⟨dx, ca, ra, us, ws, h1, h2, h3, h4, h5⟩ := h
  exact ⟨dx, ca, ra, us, ws, by rw [upd_ne (ne_of h1 e fun z => nomatch z)]; exact h1, KT.put e _ _ h2, h3.keep (KT.put e), KT.put e _ _ h4, h5.keep (KT.put e)⟩
theorem UnX.st {K : PySem.W.Frag} {a : Ad} {τ τ' : Tg} {Z : List Nat} {H H' : Hp} {u : Addr} {i : UI} (h : UnX K a H u i) (t : (τ u).1 = 2) (s : Stp τ τ' Z H H') (n : 2 ∉ Z) (k : KT K H H') : UnX K a H' u i := by
  obtain ⟨dx, ca, ra, us, ws, h1, h2, h3, h4, h5⟩ := h
  exact ⟨dx, ca, ra, us, ws, s.fr _ _ h1 (by rw [t]; exact n), k _ _ h2, h3.keep k, k _ _ h4, h5.keep k⟩
theorem GS.put' {K : PySem.W.Frag} {τ τ' : Tg} {H H' : Hp} {D : Addr} {ys : List V} {o : HO} (h : GS K τ τ' H H') (n : H D = none) (e : H' D = some (.lst ys)) : GS K τ τ' H (upd H' D o) := h.put n e
def rtg (τ : Tg) (H : Hp) : Tg := fun b => if (H b).isNone = true then (2, 0, 0) else τ b
theorem rtg_stp {τ : Tg} {H H' : Hp} (s : Same H H') : Stp τ (rtg τ H) [] H H' := ⟨fun b o e _ => s b o e, fun b e => by
    unfold rtg
    cases c : H b with
    | none => exact absurd c e
    | some o => rfl, (Stp.same (τ := τ) (S := []) s).al⟩
theorem rtg_new {τ : Tg} {H : Hp} {u : Addr} (n : H u = none) : (rtg τ H u).1 = 2 := by unfold rtg; rw [n]; rfl
structure BX (K : PySem.W.Frag) (a : Ad) (τ : Tg) (H : Hp) (shs : List Shp) (ut : Addr) (us : List Addr) (na pt : Addr) (pvs : List V) (pls : List (Int × Int)) : Prop where
  ut : SqT K H ut (us.map V.ref)
  u : ∀ k u s, us[k]? = some u → shs[k]? = some s → UnX K a H u (unU k s) ∧ (τ u).1 = 2
  na : SqT K H na (nms5x.map V.str)
  pt : SqT K H pt pvs
  dp : DTs K H pvs (pls.map plD)
theorem BX.st {K : PySem.W.Frag} {a : Ad} {τ τ' : Tg} {Z : List Nat} {H H' : Hp} {shs : List Shp} {ut : Addr} {us : List Addr} {na pt : Addr} {pvs : List V} {pls : List (Int × Int)} (h : BX K a τ H shs ut us na pt pvs pls) (s : Stp τ τ' Z H H') (n : 2 ∉ Z) (k : KT K H H') : BX K a τ' H' shs ut us na pt pvs pls := by
  refine ⟨k _ _ h.ut, fun j u x e1 e2 => ⟨(h.u j u x e1 e2).1.st (h.u j u x e1 e2).2 s n k, ?_⟩, k _ _ h.na, k _ _ h.pt, h.dp.keep k⟩
  obtain ⟨⟨dx, _, _, _, _, hx, _⟩, t2⟩ := h.u j u x e1 e2
  rw [s.ag u (some_ne hx)]; exact t2
theorem BX.mh {K : PySem.W.Frag} {a : Ad} {τ : Tg} {H : Hp} {shs : List Shp} {ut : Addr} {us : List Addr} {na pt : Addr} {pvs : List V} {pls : List (Int × Int)} {mo dx : Addr} (h : BX K a τ H shs ut us na pt pvs pls) (hm : H mo = some (.ins a.C_Module dx (moF (.ref ut) (.ref na) (.ref pt)))) (lu : us.length = shs.length) (l0 : 0 < shs.length) (l4 : shs.length ≤ 4) (inp : List Int) : ModH K a H (evX shs inp pls) mo fun k => us.getD k 0 := by
  have elen : (evX shs inp pls).us.length = shs.length := by show ((List.range shs.length).map _).length = _; simp
  have at_ : ∀ k u, (evX shs inp pls).us[k]? = some u → ∃ s p, shs[k]? = some s ∧ us[k]? = some p ∧ us.getD k 0 = p ∧ u = unU k s := fun k u e => by
    have hk : k < shs.length := by rw [← elen]; exact (List.getElem?_eq_some_iff.mp e).1
    have hs : shs[k]? = some shs[k] := List.getElem?_eq_getElem hk
    have hu : us[k]? = some (us[k]'(by omega)) := List.getElem?_eq_getElem (by omega)
    refine ⟨_, _, hs, hu, by rw [List.getD_eq_getElem?_getD, hu]; rfl, ?_⟩
    have := evX_at (inp := inp) (pls := pls) hs
    rw [e] at this
    exact Option.some.inj this
  refine ⟨⟨dx, na, pt, ut, hm, ?_, .tup h.na ?_, .tup h.pt h.dp⟩, fun k u e => ?_, fun k u e => ?_, by rw [elen]; omega, by rw [elen]; exact l0, ?_⟩
  · have e1 : us.map V.ref = (List.range (evX shs inp pls).us.length).map fun k => V.ref (us.getD k 0) := by
      rw [elen, ← lu]
      refine List.ext_getElem (by simp) fun i h1 h2 => ?_
      simp at h1
      simp [h1]
    rw [← e1]; exact h.ut
  · exact .cons (.str _) (.cons (.str _) (.cons (.str _) (.cons (.str _) (.cons (.str _) .nil))))
  · obtain ⟨s, p, e1, e2, e3, rfl⟩ := at_ k u e
    rw [e3]
    exact (h.u k p s e2 e1).1
  · obtain ⟨s, p, e1, e2, e3, rfl⟩ := at_ k u e
    exact ⟨by show 12 ≤ 1000; decide, by show 0 ≤ 12; decide, by show 0 ≤ 1000; decide⟩
  · have hs : shs[0]? = some shs[0] := List.getElem?_eq_getElem l0
    have := evX_at (inp := inp) (pls := pls) hs
    unfold Ev.u
    rw [List.getD_eq_getElem?_getD, this]; rfl
section
variable {P : Program} {w : World} {K : PySem.W.Frag} {mg : Str → Option Value} {base : Heap} {a : Ad}
theorem ok_law (T : Txt w K mg a) : FnOk P w K mg base CX0 24 a.f_law a.d_law ["script"] (spLaw K) := by
  have G_law_start : FnOk P w K mg base CX0 2 _ _ _ _ := ok_law_start T
  have G_law_take : FnOk P w K mg base CX0 1 _ _ _ _ := ok_takeT T
  have G_law_shape : FnOk P w K mg base CX0 3 _ _ _ _ := ok_law_shape T
  have G_law_unit : FnOk P w K mg base CX0 3 _ _ _ _ := ok_law_unit T
  have G_law_place : FnOk P w K mg base CX0 1 _ _ _ _ := ok_law_place T
  have G_law_walk : FnOk P w K mg base CX0 7 _ _ _ _ := ok_law_walkA T
  have G_Module___init__ : FnOk P w K mg base CX0 1 _ _ _ _ := ok_Module___init__ T
  have G_run_module : FnOk P w K mg base CX0 11 _ _ _ _ := ok_run_module T
  have G_law_alike : FnOk P w K mg base CX0 4 _ _ _ _ := ok_alike T 3
  refine T.F_law.ok sc_law (fun vs H Q E h => ?_) (fun cdv AA outer s H vs Q E hr h => ?_)
  · obtain ⟨_, _, rfl, _⟩ := h; rfl
  · obtain ⟨sa, ns, rfl, hS, hl, q⟩ := h
    refine ⟨_, (C8.pss_cut (ps_set (i := 1) sc_law.nd rfl (Or.inr rfl) (pe_call G_law_start (hr.mono (by decide)) rfl T.g__law_start T.k__law_start T.bd__law_start .nil pass0 (pa_cons (pv 0) pa_nil)))
      (C8.pss_cut (ps_set (i := 2) sc_law.nd rfl (Or.inr rfl) (pe_op op_add pe_int (pe_call G_law_take (hr.mono (by decide)) rfl T.g__law_take T.k__law_take T.bd__law_take .nil pass0 (pa_cons (pv 1) (pa_cons pe_int pa_nil)))))
      (C8.pss_cut (ps_set (i := 3) sc_law.nd rfl (Or.inr rfl) (pe_lc (own := [("number", 4)]) (g := gName 4) rfl sc_law.nd (pi_range1 rfl T.b_range (pa_cons (pv 2) pa_nil)) (blkOk_by (own := [("number", 4)]) (N := ["script", "state", "many", "shapes", "number", "units", "names", "places", "k", "events", "raised", "ending", "module", "due"]) (sc := defScope s_law) (by decide +kernel)) (fun _ _ _ _ _ => pg_name (i := 4) sc_law.nd rfl (Or.inl rfl)) (fun _ _ _ _ _ => pts_nil) (fun _ _ _ _ _ => (pe_call G_law_shape (hr.mono (by decide)) rfl T.g__law_shape T.k__law_shape T.bd__law_shape .nil pass0 (pa_cons (pv 1) (pa_cons (pe_cmpR op_eq (pv 4) (pe_op op_sub (pv 2) pe_int) (nomark _)) pa_nil))))))
      (C8.pss_cut (ps_set (i := 5) sc_law.nd rfl (Or.inl rfl) (pe_callTy call_tuple_of (by rfl) T.b_tuple (by decide +kernel) (pa_cons (pe_lc (own := [("number", 4)]) (g := gName 4) rfl sc_law.nd (pi_range1 rfl T.b_range (pa_cons (pv 2) pa_nil)) (blkOk_by (own := [("number", 4)]) (N := ["script", "state", "many", "shapes", "number", "units", "names", "places", "k", "events", "raised", "ending", "module", "due"]) (sc := defScope s_law) (by decide +kernel)) (fun _ _ _ _ _ => pg_name (i := 4) sc_law.nd rfl (Or.inl rfl)) (fun _ _ _ _ _ => pts_nil) (fun _ _ _ _ _ => (pe_call G_law_unit (hr.mono (by decide)) rfl T.g__law_unit T.k__law_unit T.bd__law_unit .nil pass0 (pa_cons (pe_ix (ix_listK (K := K) rfl) (pv 3) (pv 4) (fun _ _ => rfl)) (pa_cons (pv 4) pa_nil))))) pa_nil)))
      (C8.pss_cut (ps_set (i := 6) sc_law.nd rfl (Or.inl rfl) (pe_tup (pa_cons pe_str (pa_cons pe_str (pa_cons pe_str (pa_cons pe_str (pa_cons pe_str pa_nil)))))))
      (C8.pss_cut (ps_set (i := 7) sc_law.nd rfl (Or.inl rfl) (pe_callTy call_tuple_of (by rfl) T.b_tuple (by decide +kernel) (pa_cons (pe_lc (own := [("k", 8)]) (g := gName 8) rfl sc_law.nd (pi_range1 rfl T.b_range (pa_cons pe_int pa_nil)) (blkOk_by (own := [("k", 8)]) (N := ["script", "state", "many", "shapes", "number", "units", "names", "places", "k", "events", "raised", "ending", "module", "due"]) (sc := defScope s_law) (by decide +kernel)) (fun _ _ _ _ _ => pg_name (i := 8) sc_law.nd rfl (Or.inl rfl)) (fun _ _ _ _ _ => pts_nil) (fun _ _ _ _ _ => (pe_call G_law_place (hr.mono (by decide)) rfl T.g__law_place T.k__law_place T.bd__law_place .nil pass0 (pa_cons (pv 1) pa_nil)))) pa_nil)))
      (C8.pss_cut (ps_set (i := 9) sc_law.nd rfl (Or.inl rfl) (pe_lst pa_nil))
      (C8.pss_cut (ps_set (i := 10) sc_law.nd rfl (Or.inl rfl) (pe_call G_law_walk (hr.mono (by decide)) rfl T.g__law_walk T.k__law_walk T.bd__law_walk .nil pass0 (pa_cons (pv 3) (pa_cons pe_int (pa_cons (pv 9) pa_nil)))))
      (C8.pss_cut (ps_set (i := 11) sc_law.nd rfl (Or.inl rfl) (pe_tup (pa_cons pe_str pa_nil)))
      (C8.pss_cut (ps_if (pt_cmpR op_notN (pv 10) pe_non (nomark _)) (pss_one (ps_set (i := 11) sc_law.nd rfl (Or.inl rfl) (pe_tup (pa_cons pe_str (pa_cons (pe_ix ix_tup (pv 6) (pe_ix ix_list (pv 10) pe_int (fun _ _ => rfl)) (fun _ _ => rfl)) (pa_cons (pe_ix ix_tup (pe_ix ix_tup (pv 7) (pe_ix ix_list (pv 10) pe_int (fun _ _ => rfl)) (fun _ _ => rfl)) pe_int (fun _ _ => rfl)) (pa_cons (pe_ix ix_tup (pe_ix ix_tup (pv 7) (pe_ix ix_list (pv 10) pe_int (fun _ _ => rfl)) (fun _ _ => rfl)) pe_int (fun _ _ => rfl)) pa_nil))))))) pss_nil)
      (C8.pss_cut (ps_set (i := 12) sc_law.nd rfl (Or.inl rfl) (pe_make T.mk_Module G_Module___init__ (hr.mono (by decide)) rfl T.g_Module T.bd_Module___init__ .nil pass0 (pa_cons (pv 5) (pa_cons (pv 6) (pa_cons (pv 7) pa_nil)))))
      (C8.pss_cut (ps_set (i := 13) sc_law.nd rfl (Or.inl rfl) (pe_tup (pa_cons (pe_callTy call_tuple_of (by rfl) T.b_tuple (by decide +kernel) (pa_cons (pv 9) pa_nil)) (pa_cons (pv 11) pa_nil))))
      (C8.pss_cut (ps_if (pt_not (pt_val (pe_call G_law_alike (hr.mono (by decide)) rfl T.g__law_alike T.k__law_alike T.bd__law_alike .nil pass0 (pa_cons (pe_callK G_run_module (hr.mono (by decide)) rfl T.g_run_module T.k_run_module T.kb_run_module pass0 (pa_cons (pv 12) (pa_cons (pe_lst pa_nil) pa_nil)) (pk_cons (pv 2) pk_nil)) (pa_cons (pv 13) pa_nil))))) (pss_one (ps_ret pe_bl)) pss_nil)
      (pss_one (ps_ret (pe_call G_law_alike (hr.mono (by decide)) rfl T.g__law_alike T.k__law_alike T.bd__law_alike .nil pass0 (pa_cons (pe_callK G_run_module (hr.mono (by decide)) rfl T.g_run_module T.k_run_module T.kb_run_module pass0 (pa_cons (pv 12) (pa_cons (pe_lst (pa_cons pe_int pa_nil)) pa_nil)) (pk_cons pe_int pk_nil)) (pa_cons (pv 13) pa_nil)))))))))))))))))), ?_⟩
    refine ⟨fun σ H' => ∃ (τ' : Tg) (st g : Addr), StT τ' H' st g ∧ σ = [some (.ref sa), some (.ref st), none, none, none, none, none, none, none, none, none, none, none, none], ?_, ?_⟩
    · refine ⟨_, rfl, sa, ns, rfl, hS, hl, fun st g H1 n1 n2 hst s1 => ?_⟩
      exact ⟨tgN (fun _ => (4, 1, 0)) st (4, 0, 0), st, g, ⟨hst, tg_same, tg_ne hst.ne.symm⟩, rfl⟩
    rintro σ H1 ⟨τ1, st, g, S, rfl⟩
    refine ⟨fun σ H' => ∃ A : Nat, 1 ≤ A ∧ A ≤ 4 ∧ StT τ1 H' st g ∧ σ = [some (.ref sa), some (.ref st), some (.int A), none, none, none, none, none, none, none, none, none, none, none], ?_, ?_⟩
    · refine ⟨_, rfl, τ1, st, g, 4, rfl, S, by decide, by decide, fun v H2 v0 v1 S2 F2 => ⟨_, _, rfl, rfl, (1 + v).toNat, by omega, by omega, S2, ?_⟩⟩
      rw [show (((1 + v).toNat : Nat) : Int) = 1 + v by omega]; rfl
    clear S
    rintro σ H2 ⟨A, A1, A4, S, rfl⟩
    -- the shapes
    refine ⟨fun σ H' => ∃ (τ' : Tg) (sp : Addr) (ps : List Addr) (shs : List Shp) (o4 : Option V), StT τ' H' st g ∧ ShsR K τ' H' sp ps shs ∧ shs.length = A ∧ (∀ s ∈ shs, s.Ok) ∧ (∀ j s, shs[j]? = some s → s.kd = 0 → j + 1 < shs.length) ∧ σ = [some (.ref sa), some (.ref st), some (.int A), some (.ref sp), o4, none, none, none, none, none, none, none, none, none], ?_, ?_⟩
    · refine ⟨_, rfl, _, rfl, by omega, by omega, fun D nD => ?_⟩
      refine lc_range (lo := 0) (n := (A : Int).toNat) (fun i H' => ∃ (τ' : Tg) (ps : List Addr) (shs : List Shp), StT τ' H' st g ∧ ShsR K τ' H' D ps shs ∧ shs.length = i ∧ (∀ s ∈ shs, s.Ok) ∧ (∀ j s, shs[j]? = some s → s.kd = 0 → j + 1 < A)) ⟨tgN τ1 D (3, 6, 0), [], [], S.new nD, ⟨.mk, rfl, (fun k p s e => by cases e)⟩, rfl, fun s h => (List.not_mem_nil h).elim, (fun j s e => by cases e)⟩ ?_ ?_
      · rintro i H3 hi ⟨τ3, ps, shs, S3, hs3, l3, ok3, kd3⟩
        have hi : i < A := by omega
        rw [show (0 : Int) + (i : Int) = (i : Int) from Int.zero_add _]
        refine ⟨rfl, _, rfl, _, rfl, _, rfl, _, _, rfl, rfl, rfl, τ3, st, g, decide (V.int (i : Int) = V.int ((A : Int) - 1)), rfl, S3, fun p s τ4 H4 ok4 k1 k2 hp S4 F4 => ?_⟩
        have hs4 := hs3.st F4.s (by simp) F4.k
        have hps : ps.length = i := by rw [hs3.2.1, l3]
        refine ⟨_, hs4.1.1, by rw [List.length_map, hps]; exact small1000 (by omega), τ4, ps ++ [p], shs ++ [s], S4.put3 (by rw [hs4.1.2]), ⟨?_, by simp [hs4.2.1], fun k p' s' e1 e2 => ?_⟩, by simp [l3], fun s' m => ?_, fun j s' e k0 => ?_⟩
        · rw [List.map_append]; exact .set hs4.1.2
        · by_cases hk : k < ps.length
          · rw [List.getElem?_append_left hk] at e1
            rw [List.getElem?_append_left (by omega)] at e2
            exact (hs4.2.2 k p' s' e1 e2).put6 hs4.1
          · have hk2 : k = ps.length := by
              have := (List.getElem?_eq_some_iff.mp e1).1
              simp at this; omega
            rw [hk2, List.getElem?_append_right (Nat.le_refl _), Nat.sub_self] at e1
            rw [hk2, hs4.2.1, List.getElem?_append_right (Nat.le_refl _), Nat.sub_self] at e2
            obtain rfl := Option.some.inj e1
            obtain rfl := Option.some.inj e2
            exact hp.put6 hs4.1
        · rcases List.mem_append.mp m with m | m
          · exact ok3 s' m
          · rw [List.mem_singleton.mp m]; exact ok4
        · by_cases hj : j < shs.length
          · rw [List.getElem?_append_left hj] at e
            exact kd3 j s' e k0
          · have hj2 : j = shs.length := by
              have := (List.getElem?_eq_some_iff.mp e).1
              simp at this; omega
            rw [hj2, List.getElem?_append_right (Nat.le_refl _), Nat.sub_self] at e
            obtain rfl := Option.some.inj e
            have := k1 k0
            have h2 : ¬ (V.int (i : Int) = V.int ((A : Int) - 1)) := of_decide_eq_false this
            have h3 : (i : Int) ≠ (A : Int) - 1 := fun c => h2 (by rw [c])
            omega
      · rintro H3 ⟨τ3, ps, shs, S3, hs3, l3, ok3, kd3⟩
        have l3 : shs.length = A := by rw [l3]; rfl
        exact ⟨τ3, D, ps, shs, _, S3, hs3, l3, ok3, by rw [l3]; exact kd3, rfl⟩
    clear S
    rintro σ H3 ⟨τ3, sp, ps, shs, o4, S, hsh, lA, ok, kd, rfl⟩
    have hps : ps.length = A := by rw [hsh.2.1, lA]
    -- the units
    refine ⟨fun σ H' => ∃ (τ' : Tg) (ut : Addr) (us : List Addr) (o4 : Option V), StT τ' H' st g ∧ ShsR K τ' H' sp ps shs ∧ SqT K H' ut (us.map V.ref) ∧ us.length = A ∧ (∀ k u s, us[k]? = some u → shs[k]? = some s → UnX K a H' u (unU k s) ∧ (τ' u).1 = 2) ∧ σ = [some (.ref sa), some (.ref st), some (.int A), some (.ref sp), o4, some (.ref ut), none, none, none, none, none, none, none, none], ?_, ?_⟩
    · refine ⟨_, rfl, _, rfl, by omega, by omega, fun D nD => ?_⟩
      refine lc_range (lo := 0) (n := (A : Int).toNat) (fun i H' => ∃ us : List Addr, H' D = some (.lst (us.map V.ref)) ∧ us.length = i ∧ Same H3 H' ∧ ∀ k u s, us[k]? = some u → shs[k]? = some s → UnX K a H' u (unU k s) ∧ H3 u = none) ⟨[], upd_same, rfl, sN (Same.refl _) nD, fun k u s e => by cases e⟩ ?_ ?_
      · rintro i H4 hi ⟨us, hD, lu, s4, hu⟩
        have hi : i < A := by omega
        rw [show (0 : Int) + (i : Int) = (i : Int) from Int.zero_add _]
        have hi2 : i < ps.length := by omega
        have hi3 : i < shs.length := by omega
        have es : shs[i]? = some shs[i] := List.getElem?_eq_getElem hi3
        have hs4 := hsh.st (Stp.same (S := []) s4) (by simp) (KT.same s4)
        refine ⟨rfl, _, rfl, _, rfl, _, _, _, _, rfl, rfl, SqL.of hs4.1.1, atI_nat (by rw [List.getElem?_map, List.getElem?_eq_getElem hi2]; rfl), _, rfl, τ3, ps[i], shs[i], i, rfl, hs4.2.2 i _ _ (List.getElem?_eq_getElem hi2) es, ok _ (List.getElem_mem hi3), by omega, fun u H5 nu ux s5 => ?_⟩
        have nu3 : H3 u = none := by
          cases c : H3 u with
          | none => rfl
          | some o => rw [s4 _ _ c] at nu; cases nu
        have hD5 := s5 _ _ hD
        refine ⟨_, hD5, by rw [List.length_map, lu]; exact small1000 (by omega), us ++ [u], by rw [List.map_append]; exact upd_same, by simp [lu], sUpd (sTr s4 s5) nD, fun k u' s' e1 e2 => ?_⟩
        by_cases hk : k < us.length
        · rw [List.getElem?_append_left hk] at e1
          obtain ⟨x1, x2⟩ := hu k u' s' e1 e2
          exact ⟨(x1.mono s5).put hD5, x2⟩
        · have hk2 : k = us.length := by
            have := (List.getElem?_eq_some_iff.mp e1).1
            simp at this; omega
          rw [hk2, List.getElem?_append_right (Nat.le_refl _), Nat.sub_self] at e1
          obtain rfl := Option.some.inj e1
          rw [hk2, lu, es] at e2
          obtain rfl := Option.some.inj e2
          rw [hk2, lu]
          exact ⟨ux.put hD5, nu3⟩
      · rintro H4 ⟨us, hD, lu, s4, hu⟩
        refine ⟨D, _, rfl, .inl ⟨SqL.of hD, fun ut nut => ?_⟩⟩
        have s5 : Same H4 (upd H4 ut (.tup (us.map V.ref))) := sN (Same.refl _) nut
        have R := rtg_stp (τ := τ3) (sTr s4 s5)
        exact ⟨rtg τ3 H3, ut, us, _, S.step R (by simp), hsh.st R (by simp) (KT.same (sTr s4 s5)), SqT.of upd_same, by rw [lu]; rfl, fun k u s e1 e2 => ⟨(hu k u s e1 e2).1.mono s5, rtg_new (hu k u s e1 e2).2⟩, rfl⟩
    clear S hsh τ3 o4
    rintro σ H4 ⟨τ4, ut, us, o4, S, hsh, hut, lu, hu, rfl⟩
    -- the names
    refine ⟨fun σ H' => ∃ (τ' : Tg) (na : Addr), StT τ' H' st g ∧ ShsR K τ' H' sp ps shs ∧ SqT K H' ut (us.map V.ref) ∧ (∀ k u s, us[k]? = some u → shs[k]? = some s → UnX K a H' u (unU k s) ∧ (τ' u).1 = 2) ∧ SqT K H' na (nms5x.map V.str) ∧ σ = [some (.ref sa), some (.ref st), some (.int A), some (.ref sp), o4, some (.ref ut), some (.ref na), none, none, none, none, none, none, none], ?_, ?_⟩
    · refine ⟨by show 5 ≤ sizeLine; decide, fun na nna => ?_⟩
      have R : GS K τ4 (tgN τ4 na (0, 0, 0)) H4 (upd H4 na (.tup (nms5x.map V.str))) := GS.refl.new nna
      refine ⟨_, na, S.new nna, hsh.st R.s (by simp) R.k, R.k _ _ hut, fun k u s e1 e2 => ⟨(hu k u s e1 e2).1.st (hu k u s e1 e2).2 R.s (by simp) R.k, ?_⟩, SqT.of upd_same, rfl⟩
      obtain ⟨⟨dx, _, _, _, _, hx, _⟩, t2⟩ := hu k u s e1 e2
      rw [R.s.ag u (some_ne hx)]; exact t2
    clear S hsh hut hu τ4
    rintro σ H5 ⟨τ5, na, S, hsh, hut, hu, hna, rfl⟩
    -- the places
    refine ⟨fun σ H' => ∃ (τ' : Tg) (pt : Addr) (pls : List (Int × Int)) (vs : List V) (o8 : Option V), ShsR K τ' H' sp ps shs ∧ SqT K H' ut (us.map V.ref) ∧ (∀ k u s, us[k]? = some u → shs[k]? = some s → UnX K a H' u (unU k s) ∧ (τ' u).1 = 2) ∧ SqT K H' na (nms5x.map V.str) ∧ pls.length = 4 ∧ SqT K H' pt vs ∧ DTs K H' vs (pls.map plD) ∧ σ = [some (.ref sa), some (.ref st), some (.int A), some (.ref sp), o4, some (.ref ut), some (.ref na), some (.ref pt), o8, none, none, none, none, none], ?_, ?_⟩
    · refine ⟨_, rfl, by decide, by decide, fun D nD => ?_⟩
      refine lc_range (lo := 0) (n := (4 : Int).toNat) (fun i H' => ∃ (τ' : Tg) (vs : List V) (pls : List (Int × Int)), StT τ' H' st g ∧ GS K τ5 τ' H5 H' ∧ At τ' H' D (.lst vs) (8, 1, 0) ∧ DTs K H' vs (pls.map plD) ∧ pls.length = i) ⟨tgN τ5 D (8, 1, 0), [], [], S.new nD, GS.refl.new nD, .mk, .nil, rfl⟩ ?_ ?_
      · rintro i H6 hi ⟨τ6, vs, pls, S6, F6, hD, dv, lp⟩
        have hi : i < 4 := hi
        have lv := dv.len
        rw [List.length_map] at lv
        refine ⟨rfl, _, rfl, τ6, st, g, rfl, S6, fun u x y τ7 H7 du S7 F7 => ?_⟩
        have hD7 := hD.st F7.s (by simp)
        refine ⟨vs, hD7.1, small1000 (by omega), τ7, vs ++ [u], pls ++ [(x, y)], S7.step ((Stp.refl (S := [8])).put (by rw [hD7.2]; simp)) (by simp), (F6.tr F7).put nD hD7.1, .set hD7.2, ?_, by simp [lp]⟩
        rw [List.map_append]
        exact ((dv.keep F7.k).keep (KT.put hD7.1)).app (.cons (du.keep (KT.put hD7.1)) .nil)
      · rintro H6 ⟨τ6, vs, pls, S6, F6, hD, dv, lp⟩
        refine ⟨D, _, rfl, .inl ⟨SqL.of hD.1, fun pt npt => ?_⟩⟩
        have R := F6.new npt (x := (0, 0, 0)) (o := .tup vs)
        refine ⟨_, pt, pls, vs, _, hsh.st R.s (by simp) R.k, R.k _ _ hut, fun k u s e1 e2 => ⟨(hu k u s e1 e2).1.st (hu k u s e1 e2).2 R.s (by simp) R.k, ?_⟩, R.k _ _ hna, lp, SqT.of upd_same, dv.keep (KT.new npt), rfl⟩
        obtain ⟨⟨dx, _, _, _, _, hx, _⟩, t2⟩ := hu k u s e1 e2
        rw [R.s.ag u (some_ne hx)]; exact t2
    clear S hsh hut hu hna τ5
    rintro σ H6 ⟨τ6, pt, pls, pvs, o8, hsh, hut, hu, hna, l4, hpt, dpt, rfl⟩
    have B : BX K a τ6 H6 shs ut us na pt pvs pls := ⟨hut, hu, hna, hpt, dpt⟩
    clear hut hu hna hpt dpt
    have l0 : 0 < shs.length := by omega
    have l4' : shs.length ≤ 4 := by omega
    obtain ⟨S1, g1, ev1, en1, gd⟩ := law_run (inp := []) (fu := (A : Int)) ok l4 kd l0 l4' (by omega)
    obtain ⟨S2, g2, ev2, en2, _⟩ := law_run (inp := [2]) (fu := 60) ok l4 kd l0 l4' (by omega)
    have wl := walkF_len shs 0 ok
    obtain ⟨s0, t0, es0⟩ : ∃ s0 t0, shs = s0 :: t0 := by
      cases shs with
      | nil => simp at l0
      | cons x y => exact ⟨x, y, rfl⟩
    have lt0 : shs.length = t0.length + 1 := by rw [es0]; rfl
    -- the events
    refine ⟨fun σ H' => ∃ (τ' : Tg) (ev : Addr), ShsR K τ' H' sp ps shs ∧ BX K a τ' H' shs ut us na pt pvs pls ∧ EvT K τ' H' ev [] ∧ σ = [some (.ref sa), some (.ref st), some (.int A), some (.ref sp), o4, some (.ref ut), some (.ref na), some (.ref pt), o8, some (.ref ev), none, none, none, none], ?_, ?_⟩
    · refine ⟨by show 0 ≤ sizeLine; decide, fun ev nev => ?_⟩
      have R : GS K τ6 (tgN τ6 ev (6, 0, 0)) H6 (upd H6 ev (.lst [])) := GS.refl.new nev
      exact ⟨_, ev, hsh.st R.s (by simp) R.k, B.st R.s (by simp) R.k, ⟨[], .mk, .nil⟩, rfl⟩
    clear B hsh τ6
    rintro σ H7 ⟨τ7, ev, hsh, B, E7, rfl⟩
    -- the walk
    refine ⟨fun σ H' => ∃ (τ' : Tg) (v : V), BX K a τ' H' shs ut us na pt pvs pls ∧ RsV τ' H' (walkF 0 shs).2 v ∧ EvT K τ' H' ev (walkF 0 shs).1 ∧ σ = [some (.ref sa), some (.ref st), some (.int A), some (.ref sp), o4, some (.ref ut), some (.ref na), some (.ref pt), o8, some (.ref ev), some v, none, none, none], ?_, ?_⟩
    · refine ⟨_, rfl, _, rfl, t0.length, by omega, τ7, sp, ps, shs, 0, s0, t0, ev, [], rfl, hsh, ok, kd, by rw [List.drop_zero, es0], rfl, E7, by simp; omega, fun v τ8 H8 r8 E8 G8 => ?_⟩
      rw [← es0] at r8 E8
      exact ⟨τ8, v, B.st G8.s (by simp) G8.k, r8, E8, rfl⟩
    clear B hsh E7 τ7
    rintro σ H8 ⟨τ8, v, B, r8, E8, rfl⟩
    generalize hwk : walkF 0 shs = wk at ev1 en1 gd ev2 en2 wl r8 E8
    -- the ending
    refine ⟨fun σ H' => ∃ (τ' : Tg) (e : Addr), BX K a τ' H' shs ut us na pt pvs pls ∧ RsV τ' H' wk.2 v ∧ EvT K τ' H' ev wk.1 ∧ DT K H' (.ref e) (.tuple [.str "normal"]) ∧ σ = [some (.ref sa), some (.ref st), some (.int A), some (.ref sp), o4, some (.ref ut), some (.ref na), some (.ref pt), o8, some (.ref ev), some v, some (.ref e), none, none], ?_, ?_⟩
    · refine ⟨by show 1 ≤ sizeLine; decide, fun e ne => ?_⟩
      have R : GS K τ8 (tgN τ8 e (0, 0, 0)) H8 (upd H8 e (.tup [V.str "normal"])) := GS.refl.new ne
      refine ⟨_, e, B.st R.s (by simp) R.k, ?_, E8.new ne, .tup (SqT.of upd_same) (.cons (.str _) .nil), rfl⟩
      cases c : wk.2 with
      | none => rw [c] at r8; exact r8
      | some q' => rw [c] at r8; obtain ⟨R', e1, e2⟩ := r8; exact ⟨R', e1, e2.new ne⟩
    clear B r8 E8 τ8
    rintro σ H9 ⟨τ9, e0, B, r9, E9, d0, rfl⟩
    refine ⟨fun σ H' => ∃ (τ' : Tg) (e : V), BX K a τ' H' shs ut us na pt pvs pls ∧ EvT K τ' H' ev wk.1 ∧ DT K H' e (enD (evX shs [] pls) (enX wk.2)) ∧ σ = [some (.ref sa), some (.ref st), some (.int A), some (.ref sp), o4, some (.ref ut), some (.ref na), some (.ref pt), o8, some (.ref ev), some v, some e, none, none], ?_, ?_⟩
    · cases c : wk.2 with
      | none =>
        rw [c] at r9
        obtain rfl : v = .non := r9
        exact ⟨_, rfl, rfl, _, rfl, iteF ⟨τ9, _, B, E9, d0, rfl⟩⟩
      | some qq =>
        rw [c] at r9
        obtain ⟨R, rfl, hR⟩ := r9
        have gq := gd qq c
        obtain ⟨x, hx⟩ := Int.eq_ofNat_of_zero_le gq.1.1
        obtain ⟨y, hy⟩ := Int.eq_ofNat_of_zero_le gq.2.1
        have hx5 : x < 5 := by have := gq.1.2; omega
        have hy4 : y < 4 := by have := gq.2.2; omega
        obtain ⟨pv, epv, dpv⟩ := B.dp.it y (d := plD (pls.getD y (0, 0))) (by rw [List.getElem?_map, List.getD_eq_getElem?_getD, List.getElem?_eq_getElem (show y < pls.length by omega)]; rfl)
        obtain ⟨pp, px, rfl, p1, p2⟩ := dpv.ts
        have enx : nms5x[x]? = some (nms5x.getD x "") := by rw [List.getD_eq_getElem?_getD, List.getElem?_eq_getElem (show x < nms5x.length from hx5)]; rfl
        refine ⟨_, rfl, rfl, _, rfl, iteT ?_⟩
        obtain ⟨v0, vs0, ed, dv0, dvs0⟩ : ∃ v0 v1, px = [v0, v1] ∧ v0 = .int (pls.getD y (0, 0)).1 ∧ v1 = .int (pls.getD y (0, 0)).2 := by
          cases p2 with
          | cons a1 b1 => cases b1 with
            | cons a2 b2 =>
              cases b2
              cases a1
              cases a2
              exact ⟨_, _, rfl, rfl, rfl⟩
        subst ed dv0 dvs0
        refine ⟨_, rfl, _, rfl, _, _, _, _, rfl, rfl, SqL.of hR.1, atI_nat (j := 0) rfl, _, _, _, _, rfl, rfl, B.na, by rw [hx]; exact atI_nat (by rw [List.getElem?_map, enx]; rfl), _, rfl, _, rfl, _, _, _, _, rfl, rfl, SqL.of hR.1, atI_nat (j := 1) rfl, _, _, _, _, rfl, rfl, B.pt, by rw [hy]; exact epv, _, _, _, _, rfl, rfl, p1, atI_nat (j := 0) rfl, _, rfl, _, rfl, _, _, _, _, rfl, rfl, SqL.of hR.1, atI_nat (j := 1) rfl, _, _, _, _, rfl, rfl, B.pt, by rw [hy]; exact epv, _, _, _, _, rfl, rfl, p1, atI_nat (j := 1) rfl, by show 4 ≤ sizeLine; decide, fun e ne => ?_⟩
        have R2 : GS K τ9 (tgN τ9 e (0, 0, 0)) H9 (upd H9 e (.tup [V.str "raised", V.str (nms5x.getD x ""), V.int (pls.getD y (0, 0)).1, V.int (pls.getD y (0, 0)).2])) := GS.refl.new ne
        refine ⟨_, .ref e, B.st R2.s (by simp) R2.k, E9.new ne, ?_, rfl⟩
        show DT K _ (.ref e) (.tuple [.str "raised", .str (nms5x.getD qq.1.toNat ""), .int (pls.getD qq.2.toNat (0, 0)).1, .int (pls.getD qq.2.toNat (0, 0)).2])
        rw [hx, hy]
        exact .tup (SqT.of upd_same) (.cons (.str _) (.cons (.str _) (.cons (.int _) (.cons (.int _) .nil))))
    clear B r9 E9 d0 τ9
    rintro σ H10 ⟨τ10, e1, B, E10, d1, rfl⟩
    -- the module
    refine ⟨fun σ H' => ∃ (mo : Addr) (es : List V), (∀ inp, ModH K a H' (evX shs inp pls) mo fun k => us.getD k 0) ∧ H' ev = some (.lst es) ∧ DTs K H' es ((puL wk.1).map evD) ∧ DT K H' e1 (enD (evX shs [] pls) (enX wk.2)) ∧ σ = [some (.ref sa), some (.ref st), some (.int A), some (.ref sp), o4, some (.ref ut), some (.ref na), some (.ref pt), o8, some (.ref ev), some v, some e1, some (.ref mo), none], ?_, ?_⟩
    · refine ⟨_, rfl, _, rfl, _, rfl, fun x1 dx1 nx1 ndx1 nex1 => ?_⟩
      have nx2 : upd H10 dx1 (.own x1) x1 = none := by rw [upd_ne nex1.symm]; exact nx1
      have sb : Same H10 (upd (upd (upd H10 dx1 (.own x1)) x1 (.ins a.C_Module dx1 [])) x1 (.ins a.C_Module dx1 (moF (.ref ut) (.ref na) (.ref pt)))) := sUpd (sN (sN (Same.refl _) ndx1) nx2) nx1
      refine ⟨x1, dx1, _, _, _, rfl, upd_same, rfl, ?_⟩
      obtain ⟨es, f1, f2⟩ := id E10
      have B2 := B.st (Stp.same (S := []) sb) (by simp) (KT.same sb)
      exact ⟨x1, es, fun inp => B2.mh upd_same (by omega) l0 l4' inp, sb _ _ f1.1, f2.keep (KT.same sb), d1.keep (KT.same sb), rfl⟩
    clear B E10 d1 τ10
    rintro σ H11 ⟨mo, es, M, hev, des, de, rfl⟩
    -- what is due
    generalize eD : (PyData.tuple [.tuple ((puL wk.1).map evD), enD (evX shs [] pls) (enX wk.2)]) = dD
    have oka : okA 3 dD := by rw [← eD]; exact okA_res5x rfl (by unfold puL; rw [List.length_map]; omega)
    refine ⟨fun σ H' => ∃ (dt : Addr), (∀ inp, ModH K a H' (evX shs inp pls) mo fun k => us.getD k 0) ∧ DT K H' (.ref dt) dD ∧ σ = [some (.ref sa), some (.ref st), some (.int A), some (.ref sp), o4, some (.ref ut), some (.ref na), some (.ref pt), o8, some (.ref ev), some v, some e1, some (.ref mo), some (.ref dt)], ?_, ?_⟩
    · refine ⟨_, rfl, ev, es, rfl, .inl ⟨SqL.of hev, fun et net => ⟨_, rfl, by show 2 ≤ sizeLine; decide, fun dt ndt => ?_⟩⟩⟩
      have s1 : Same H11 (upd H11 et (.tup es)) := sN (Same.refl _) net
      have s2 : Same (upd H11 et (.tup es)) (upd (upd H11 et (.tup es)) dt (.tup [V.ref et, e1])) := sN (Same.refl _) ndt
      refine ⟨dt, fun inp => (M inp).mono (sTr s1 s2), ?_, rfl⟩
      rw [← eD]
      exact .tup (SqT.of upd_same) (.cons (.tup (SqT.of (s2 _ _ upd_same)) (des.keep (KT.same (sTr s1 s2)))) (.cons (de.keep (KT.same (sTr s1 s2))) .nil))
    clear M hev des de
    rintro σ H12 ⟨dt, M, dd, rfl⟩
    -- the first run
    refine ⟨fun σ H' => (∀ inp, ModH K a H' (evX shs inp pls) mo fun k => us.getD k 0) ∧ DT K H' (.ref dt) dD ∧ σ = [some (.ref sa), some (.ref st), some (.int A), some (.ref sp), o4, some (.ref ut), some (.ref na), some (.ref pt), o8, some (.ref ev), some v, some e1, some (.ref mo), some (.ref dt)], ?_, ?_⟩
    · refine ⟨_, rfl, (by show 0 ≤ sizeLine; decide), fun l1 nl1 => ?_⟩
      have s1 : Same H12 (upd H12 l1 (.lst [])) := sN (Same.refl _) nl1
      refine ⟨_, rfl, mo, l1, (A : Int), evX shs [] pls, _, fun S => Gx (evX shs [] pls) S S1, PhX (evX shs [] pls) S1, rfl, (M []).mono s1, upd_same, g1, fun S jS h => Gx.js en1 S jS h, fun n' e2 rv H9 ee drv s9 => ?_⟩
      have eu := g1.fin en1 ee
      rw [eu] at ee drv
      rw [en1] at ee
      obtain rfl := Option.some.inj ee
      rw [ev1, eD] at drv
      have sA := sTr s1 s9
      refine ⟨_, rfl, rv, .ref dt, dD, rfl, drv, dd.keep (KT.same sA), oka, ?_⟩
      exact ⟨_, rfl, iteF ⟨fun inp => (M inp).mono sA, dd.keep (KT.same sA), rfl⟩⟩
    clear M dd
    rintro σ H13 ⟨M, dd, rfl⟩
    refine ⟨_, rfl, (by show 1 ≤ sizeLine; decide), fun l1 nl1 => ?_⟩
    have s1 : Same H13 (upd H13 l1 (.lst [V.int 2])) := sN (Same.refl _) nl1
    refine ⟨mo, l1, 60, evX shs [2] pls, _, fun S => Gx (evX shs [2] pls) S S2, PhX (evX shs [2] pls) S2, rfl, (M [2]).mono s1, upd_same, g2, fun S jS h => Gx.js en2 S jS h, fun n' e2 rv H9 ee drv s9 => ?_⟩
    have eu := g2.fin en2 ee
    rw [eu] at ee drv
    rw [en2] at ee
    obtain rfl := Option.some.inj ee
    have eE : enD (evX shs [2] pls) (enX wk.2) = enD (evX shs [] pls) (enX wk.2) := by cases wk.2 <;> rfl
    rw [ev2, eE, eD] at drv
    exact ⟨_, rfl, rv, .ref dt, dD, rfl, drv, dd.keep (KT.same (sTr s1 s9)), oka, q _⟩
end

theorem all_mk {l : PySem.W.OpenLaw} {w : World} {K : PySem.W.Frag} {h : Heap} {mg : Str → Option Value} {fa : Addr} (X : K.In h) (G : h.Ns mainGlobals mg) (hfa : mg "law" = some (.ref fa))
    {C_Unit : Addr} (aC_Unit : PySem.W.nsIn K mainGlobals "Unit" = some (some (.ref C_Unit)))
    (pg_Unit : PySem.W.plainGet K C_Unit Str.empty = true) (hd_Unit : PySem.W.hasDictIn K C_Unit = true) (po_Unit : PySem.W.plainOver K C_Unit = true) (sa_Unit : PySem.W.findIn K (.ref C_Unit) "__setattr__" = some (some (.builtin "object.__setattr__"))) (mk_Unit : PySem.W.makesIn K C_Unit = true) (kC_Unit : PySem.W.keepIn K (.ref C_Unit) = true)
    (n_Unit_parent : PySem.W.findIn K (.ref C_Unit) "parent" = some none)
    (n_Unit_arguments : PySem.W.findIn K (.ref C_Unit) "arguments" = some none)
    (n_Unit_results : PySem.W.findIn K (.ref C_Unit) "results" = some none)
    (n_Unit_registers : PySem.W.findIn K (.ref C_Unit) "registers" = some none)
    (n_Unit_cells : PySem.W.findIn K (.ref C_Unit) "cells" = some none)
    (n_Unit_code : PySem.W.findIn K (.ref C_Unit) "code" = some none)
    (n_Unit_regions : PySem.W.findIn K (.ref C_Unit) "regions" = some none)
    {C_Module : Addr} (aC_Module : PySem.W.nsIn K mainGlobals "Module" = some (some (.ref C_Module)))
    (pg_Module : PySem.W.plainGet K C_Module Str.empty = true) (hd_Module : PySem.W.hasDictIn K C_Module = true) (po_Module : PySem.W.plainOver K C_Module = true) (sa_Module : PySem.W.findIn K (.ref C_Module) "__setattr__" = some (some (.builtin "object.__setattr__"))) (mk_Module : PySem.W.makesIn K C_Module = true) (kC_Module : PySem.W.keepIn K (.ref C_Module) = true)
    (n_Module_units : PySem.W.findIn K (.ref C_Module) "units" = some none)
    (n_Module_names : PySem.W.findIn K (.ref C_Module) "names" = some none)
    (n_Module_places : PySem.W.findIn K (.ref C_Module) "places" = some none)
    {C_AdaError : Addr} (aC_AdaError : PySem.W.nsIn K mainGlobals "AdaError" = some (some (.ref C_AdaError)))
    (x_AdaError : PySem.W.excIn K C_AdaError [.type "ValueError", .type "Exception", .type "BaseException", .type "object"] "ValueError.__new__" = true) (kC_AdaError : PySem.W.keepIn K (.ref C_AdaError) = true) (s1_AdaError : PySem.W.subIn K (.ref C_AdaError) (.type "BaseException") = some true) (ty_AdaError : PySem.W.typeIn K (.ref C_AdaError) = some (.type "type")) (ic_AdaError : PySem.W.isClsIn K C_AdaError = true)
    {C_Overflow : Addr} (aC_Overflow : PySem.W.nsIn K mainGlobals "Overflow" = some (some (.ref C_Overflow)))
    (x_Overflow : PySem.W.excIn K C_Overflow [.type "ValueError", .type "Exception", .type "BaseException", .type "object"] "ValueError.__new__" = true) (kC_Overflow : PySem.W.keepIn K (.ref C_Overflow) = true) (s1_Overflow : PySem.W.subIn K (.ref C_Overflow) (.type "BaseException") = some true) (ty_Overflow : PySem.W.typeIn K (.ref C_Overflow) = some (.type "type")) (ic_Overflow : PySem.W.isClsIn K C_Overflow = true)
    (h1_Overflow : PySem.W.findIn K (.ref C_Overflow) "__getattribute__" = some (some (.builtin "BaseException.__getattribute__"))) (h2_Overflow : PySem.W.findIn K (.ref C_Overflow) "__getattr__" = some none) (h3_Overflow : PySem.W.hasDictIn K C_Overflow = true) (h4_Overflow : PySem.W.findIn K (.ref C_Overflow) "__class__" = some (some (.builtin "object.__class__"))) (h5_Overflow : PySem.W.specialIn K (.builtin "object.__class__") "__get__" = some (some (.builtin "getset_descriptor.__get__"))) (h6_Overflow : PySem.W.takesIn K (.builtin "object.__class__") = some true) (h7_Overflow : PySem.W.mroIn K C_Overflow (.type "object") = some true)
    {C_DivisionByZero : Addr} (aC_DivisionByZero : PySem.W.nsIn K mainGlobals "DivisionByZero" = some (some (.ref C_DivisionByZero)))
    (x_DivisionByZero : PySem.W.excIn K C_DivisionByZero [.type "ValueError", .type "Exception", .type "BaseException", .type "object"] "ValueError.__new__" = true) (kC_DivisionByZero : PySem.W.keepIn K (.ref C_DivisionByZero) = true) (s1_DivisionByZero : PySem.W.subIn K (.ref C_DivisionByZero) (.type "BaseException") = some true) (ty_DivisionByZero : PySem.W.typeIn K (.ref C_DivisionByZero) = some (.type "type")) (ic_DivisionByZero : PySem.W.isClsIn K C_DivisionByZero = true)
    (h1_DivisionByZero : PySem.W.findIn K (.ref C_DivisionByZero) "__getattribute__" = some (some (.builtin "BaseException.__getattribute__"))) (h2_DivisionByZero : PySem.W.findIn K (.ref C_DivisionByZero) "__getattr__" = some none) (h3_DivisionByZero : PySem.W.hasDictIn K C_DivisionByZero = true) (h4_DivisionByZero : PySem.W.findIn K (.ref C_DivisionByZero) "__class__" = some (some (.builtin "object.__class__"))) (h5_DivisionByZero : PySem.W.specialIn K (.builtin "object.__class__") "__get__" = some (some (.builtin "getset_descriptor.__get__"))) (h6_DivisionByZero : PySem.W.takesIn K (.builtin "object.__class__") = some true) (h7_DivisionByZero : PySem.W.mroIn K C_DivisionByZero (.type "object") = some true)
    {C_NoInput : Addr} (aC_NoInput : PySem.W.nsIn K mainGlobals "NoInput" = some (some (.ref C_NoInput)))
    (x_NoInput : PySem.W.excIn K C_NoInput [.type "ValueError", .type "Exception", .type "BaseException", .type "object"] "ValueError.__new__" = true) (kC_NoInput : PySem.W.keepIn K (.ref C_NoInput) = true) (s1_NoInput : PySem.W.subIn K (.ref C_NoInput) (.type "BaseException") = some true) (ty_NoInput : PySem.W.typeIn K (.ref C_NoInput) = some (.type "type")) (ic_NoInput : PySem.W.isClsIn K C_NoInput = true)
    (h1_NoInput : PySem.W.findIn K (.ref C_NoInput) "__getattribute__" = some (some (.builtin "BaseException.__getattribute__"))) (h2_NoInput : PySem.W.findIn K (.ref C_NoInput) "__getattr__" = some none) (h3_NoInput : PySem.W.hasDictIn K C_NoInput = true) (h4_NoInput : PySem.W.findIn K (.ref C_NoInput) "__class__" = some (some (.builtin "object.__class__"))) (h5_NoInput : PySem.W.specialIn K (.builtin "object.__class__") "__get__" = some (some (.builtin "getset_descriptor.__get__"))) (h6_NoInput : PySem.W.takesIn K (.builtin "object.__class__") = some true) (h7_NoInput : PySem.W.mroIn K C_NoInput (.type "object") = some true)
    {C_OutOfFuel : Addr} (aC_OutOfFuel : PySem.W.nsIn K mainGlobals "OutOfFuel" = some (some (.ref C_OutOfFuel)))
    (x_OutOfFuel : PySem.W.excIn K C_OutOfFuel [.type "ValueError", .type "Exception", .type "BaseException", .type "object"] "ValueError.__new__" = true) (kC_OutOfFuel : PySem.W.keepIn K (.ref C_OutOfFuel) = true) (s1_OutOfFuel : PySem.W.subIn K (.ref C_OutOfFuel) (.type "BaseException") = some true) (ty_OutOfFuel : PySem.W.typeIn K (.ref C_OutOfFuel) = some (.type "type")) (ic_OutOfFuel : PySem.W.isClsIn K C_OutOfFuel = true)
    (h1_OutOfFuel : PySem.W.findIn K (.ref C_OutOfFuel) "__getattribute__" = some (some (.builtin "BaseException.__getattribute__"))) (h2_OutOfFuel : PySem.W.findIn K (.ref C_OutOfFuel) "__getattr__" = some none) (h3_OutOfFuel : PySem.W.hasDictIn K C_OutOfFuel = true) (h4_OutOfFuel : PySem.W.findIn K (.ref C_OutOfFuel) "__class__" = some (some (.builtin "object.__class__"))) (h5_OutOfFuel : PySem.W.specialIn K (.builtin "object.__class__") "__get__" = some (some (.builtin "getset_descriptor.__get__"))) (h6_OutOfFuel : PySem.W.takesIn K (.builtin "object.__class__") = some true) (h7_OutOfFuel : PySem.W.mroIn K C_OutOfFuel (.type "object") = some true)
    {C_Events : Addr} (aC_Events : PySem.W.nsIn K mainGlobals "Events" = some (some (.ref C_Events)))
    (pg_Events : PySem.W.plainGet K C_Events Str.empty = true) (hd_Events : PySem.W.hasDictIn K C_Events = true) (po_Events : PySem.W.plainOver K C_Events = true) (sa_Events : PySem.W.findIn K (.ref C_Events) "__setattr__" = some (some (.builtin "object.__setattr__"))) (mk_Events : PySem.W.makesIn K C_Events = true) (kC_Events : PySem.W.keepIn K (.ref C_Events) = true)
    (n_Events__inputs : PySem.W.findIn K (.ref C_Events) "_inputs" = some none)
    (n_Events__taken : PySem.W.findIn K (.ref C_Events) "_taken" = some none)
    (n_Events__rows : PySem.W.findIn K (.ref C_Events) "_rows" = some none)
    {C_Fuel : Addr} (aC_Fuel : PySem.W.nsIn K mainGlobals "Fuel" = some (some (.ref C_Fuel)))
    (pg_Fuel : PySem.W.plainGet K C_Fuel Str.empty = true) (hd_Fuel : PySem.W.hasDictIn K C_Fuel = true) (po_Fuel : PySem.W.plainOver K C_Fuel = true) (sa_Fuel : PySem.W.findIn K (.ref C_Fuel) "__setattr__" = some (some (.builtin "object.__setattr__"))) (mk_Fuel : PySem.W.makesIn K C_Fuel = true) (kC_Fuel : PySem.W.keepIn K (.ref C_Fuel) = true)
    (n_Fuel__left : PySem.W.findIn K (.ref C_Fuel) "_left" = some none)
    {C_Layout : Addr} (aC_Layout : PySem.W.nsIn K mainGlobals "Layout" = some (some (.ref C_Layout)))
    (pg_Layout : PySem.W.plainGet K C_Layout Str.empty = true) (hd_Layout : PySem.W.hasDictIn K C_Layout = true) (po_Layout : PySem.W.plainOver K C_Layout = true) (sa_Layout : PySem.W.findIn K (.ref C_Layout) "__setattr__" = some (some (.builtin "object.__setattr__"))) (mk_Layout : PySem.W.makesIn K C_Layout = true) (kC_Layout : PySem.W.keepIn K (.ref C_Layout) = true)
    (n_Layout_where : PySem.W.findIn K (.ref C_Layout) "where" = some none)
    (n_Layout_initial : PySem.W.findIn K (.ref C_Layout) "initial" = some none)
    (n_Layout_entrances : PySem.W.findIn K (.ref C_Layout) "entrances" = some none)
    (n_Layout_cleared : PySem.W.findIn K (.ref C_Layout) "cleared" = some none)
    {C_Activation : Addr} (aC_Activation : PySem.W.nsIn K mainGlobals "Activation" = some (some (.ref C_Activation)))
    (pg_Activation : PySem.W.plainGet K C_Activation Str.empty = true) (hd_Activation : PySem.W.hasDictIn K C_Activation = true) (po_Activation : PySem.W.plainOver K C_Activation = true) (sa_Activation : PySem.W.findIn K (.ref C_Activation) "__setattr__" = some (some (.builtin "object.__setattr__"))) (mk_Activation : PySem.W.makesIn K C_Activation = true) (kC_Activation : PySem.W.keepIn K (.ref C_Activation) = true)
    (n_Activation_number : PySem.W.findIn K (.ref C_Activation) "number" = some none)
    (n_Activation_unit : PySem.W.findIn K (.ref C_Activation) "unit" = some none)
    (n_Activation_where : PySem.W.findIn K (.ref C_Activation) "where" = some none)
    (n_Activation_words : PySem.W.findIn K (.ref C_Activation) "words" = some none)
    (n_Activation_cells : PySem.W.findIn K (.ref C_Activation) "cells" = some none)
    (n_Activation_link : PySem.W.findIn K (.ref C_Activation) "link" = some none)
    (n_Activation_caller : PySem.W.findIn K (.ref C_Activation) "caller" = some none)
    (n_Activation_depth : PySem.W.findIn K (.ref C_Activation) "depth" = some none)
    (n_Activation_index : PySem.W.findIn K (.ref C_Activation) "index" = some none)
    {C_Machine : Addr} (aC_Machine : PySem.W.nsIn K mainGlobals "Machine" = some (some (.ref C_Machine)))
    (pg_Machine : PySem.W.plainGet K C_Machine Str.empty = true) (hd_Machine : PySem.W.hasDictIn K C_Machine = true) (po_Machine : PySem.W.plainOver K C_Machine = true) (sa_Machine : PySem.W.findIn K (.ref C_Machine) "__setattr__" = some (some (.builtin "object.__setattr__"))) (mk_Machine : PySem.W.makesIn K C_Machine = true) (kC_Machine : PySem.W.keepIn K (.ref C_Machine) = true)
    (n_Machine_module : PySem.W.findIn K (.ref C_Machine) "module" = some none)
    (n_Machine_layouts : PySem.W.findIn K (.ref C_Machine) "layouts" = some none)
    (n_Machine_events : PySem.W.findIn K (.ref C_Machine) "events" = some none)
    (n_Machine_fuel : PySem.W.findIn K (.ref C_Machine) "fuel" = some none)
    (n_Machine_current : PySem.W.findIn K (.ref C_Machine) "current" = some none)
    (n_Machine_ending : PySem.W.findIn K (.ref C_Machine) "ending" = some none)
    (e_Overflow_Overflow : PySem.W.subIn K (.ref C_Overflow) (.ref C_Overflow) = some true)
    (e_DivisionByZero_Overflow : PySem.W.subIn K (.ref C_DivisionByZero) (.ref C_Overflow) = some false)
    (e_Overflow_DivisionByZero : PySem.W.subIn K (.ref C_Overflow) (.ref C_DivisionByZero) = some false)
    (e_DivisionByZero_DivisionByZero : PySem.W.subIn K (.ref C_DivisionByZero) (.ref C_DivisionByZero) = some true)
    (e_NoInput_NoInput : PySem.W.subIn K (.ref C_NoInput) (.ref C_NoInput) = some true)
    (e_OutOfFuel_OutOfFuel : PySem.W.subIn K (.ref C_OutOfFuel) (.ref C_OutOfFuel) = some true)
    {f_wall : Addr} {oc_wall : Value} {od_wall an_wall : Option Addr} {sl_wall : Array (Option Value)} {kV_wall dc_wall pm_wall cd_wall ct_wall : Value}
    (a_wall : PySem.W.nsIn K mainGlobals "_wall" = some (some (.ref f_wall)))
    (l_wall : K.lookup f_wall = some ⟨oc_wall, od_wall, .func (PySem.W.fnOf "_wall" "_wall" (defArgs s_wall) (defBody s_wall) (defScope s_wall) .none kV_wall dc_wall pm_wall an_wall cd_wall ct_wall), sl_wall⟩)
    (c_wall : PySem.W.codeIn K cd_wall "_wall" = true)
    (k_wall : PySem.W.keepIn K (.ref f_wall) = true)
    {f_fits : Addr} {oc_fits : Value} {od_fits an_fits : Option Addr} {sl_fits : Array (Option Value)} {kV_fits dc_fits pm_fits cd_fits ct_fits : Value}
    (a_fits : PySem.W.nsIn K mainGlobals "fits" = some (some (.ref f_fits)))
    (l_fits : K.lookup f_fits = some ⟨oc_fits, od_fits, .func (PySem.W.fnOf "fits" "fits" (defArgs s_fits) (defBody s_fits) (defScope s_fits) .none kV_fits dc_fits pm_fits an_fits cd_fits ct_fits), sl_fits⟩)
    (c_fits : PySem.W.codeIn K cd_fits "fits" = true)
    (k_fits : PySem.W.keepIn K (.ref f_fits) = true)
    {f_arithmetic : Addr} {oc_arithmetic : Value} {od_arithmetic an_arithmetic : Option Addr} {sl_arithmetic : Array (Option Value)} {kV_arithmetic dc_arithmetic pm_arithmetic cd_arithmetic ct_arithmetic : Value}
    (a_arithmetic : PySem.W.nsIn K mainGlobals "arithmetic" = some (some (.ref f_arithmetic)))
    (l_arithmetic : K.lookup f_arithmetic = some ⟨oc_arithmetic, od_arithmetic, .func (PySem.W.fnOf "arithmetic" "arithmetic" (defArgs s_arithmetic) (defBody s_arithmetic) (defScope s_arithmetic) .none kV_arithmetic dc_arithmetic pm_arithmetic an_arithmetic cd_arithmetic ct_arithmetic), sl_arithmetic⟩)
    (c_arithmetic : PySem.W.codeIn K cd_arithmetic "arithmetic" = true)
    (k_arithmetic : PySem.W.keepIn K (.ref f_arithmetic) = true)
    {f_negate : Addr} {oc_negate : Value} {od_negate an_negate : Option Addr} {sl_negate : Array (Option Value)} {kV_negate dc_negate pm_negate cd_negate ct_negate : Value}
    (a_negate : PySem.W.nsIn K mainGlobals "negate" = some (some (.ref f_negate)))
    (l_negate : K.lookup f_negate = some ⟨oc_negate, od_negate, .func (PySem.W.fnOf "negate" "negate" (defArgs s_negate) (defBody s_negate) (defScope s_negate) .none kV_negate dc_negate pm_negate an_negate cd_negate ct_negate), sl_negate⟩)
    (c_negate : PySem.W.codeIn K cd_negate "negate" = true)
    (k_negate : PySem.W.keepIn K (.ref f_negate) = true)
    {f_absolute : Addr} {oc_absolute : Value} {od_absolute an_absolute : Option Addr} {sl_absolute : Array (Option Value)} {kV_absolute dc_absolute pm_absolute cd_absolute ct_absolute : Value}
    (a_absolute : PySem.W.nsIn K mainGlobals "absolute" = some (some (.ref f_absolute)))
    (l_absolute : K.lookup f_absolute = some ⟨oc_absolute, od_absolute, .func (PySem.W.fnOf "absolute" "absolute" (defArgs s_absolute) (defBody s_absolute) (defScope s_absolute) .none kV_absolute dc_absolute pm_absolute an_absolute cd_absolute ct_absolute), sl_absolute⟩)
    (c_absolute : PySem.W.codeIn K cd_absolute "absolute" = true)
    (k_absolute : PySem.W.keepIn K (.ref f_absolute) = true)
    {f_compare : Addr} {oc_compare : Value} {od_compare an_compare : Option Addr} {sl_compare : Array (Option Value)} {kV_compare dc_compare pm_compare cd_compare ct_compare : Value}
    (a_compare : PySem.W.nsIn K mainGlobals "compare" = some (some (.ref f_compare)))
    (l_compare : K.lookup f_compare = some ⟨oc_compare, od_compare, .func (PySem.W.fnOf "compare" "compare" (defArgs s_compare) (defBody s_compare) (defScope s_compare) .none kV_compare dc_compare pm_compare an_compare cd_compare ct_compare), sl_compare⟩)
    (c_compare : PySem.W.codeIn K cd_compare "compare" = true)
    (k_compare : PySem.W.keepIn K (.ref f_compare) = true)
    {f_word : Addr} {oc_word : Value} {od_word an_word : Option Addr} {sl_word : Array (Option Value)} {kV_word dc_word pm_word cd_word ct_word : Value}
    (a_word : PySem.W.nsIn K mainGlobals "_word" = some (some (.ref f_word)))
    (l_word : K.lookup f_word = some ⟨oc_word, od_word, .func (PySem.W.fnOf "_word" "_word" (defArgs s_word) (defBody s_word) (defScope s_word) .none kV_word dc_word pm_word an_word cd_word ct_word), sl_word⟩)
    (c_word : PySem.W.codeIn K cd_word "_word" = true)
    (k_word : PySem.W.keepIn K (.ref f_word) = true)
    {f_result : Addr} {oc_result : Value} {od_result an_result : Option Addr} {sl_result : Array (Option Value)} {kV_result dc_result pm_result cd_result ct_result : Value}
    (a_result : PySem.W.nsIn K mainGlobals "_result" = some (some (.ref f_result)))
    (l_result : K.lookup f_result = some ⟨oc_result, od_result, .func (PySem.W.fnOf "_result" "_result" (defArgs s_result) (defBody s_result) (defScope s_result) .none kV_result dc_result pm_result an_result cd_result ct_result), sl_result⟩)
    (c_result : PySem.W.codeIn K cd_result "_result" = true)
    (k_result : PySem.W.keepIn K (.ref f_result) = true)
    {f_quotient : Addr} {oc_quotient : Value} {od_quotient an_quotient : Option Addr} {sl_quotient : Array (Option Value)} {kV_quotient dc_quotient pm_quotient cd_quotient ct_quotient : Value}
    (a_quotient : PySem.W.nsIn K mainGlobals "_quotient" = some (some (.ref f_quotient)))
    (l_quotient : K.lookup f_quotient = some ⟨oc_quotient, od_quotient, .func (PySem.W.fnOf "_quotient" "_quotient" (defArgs s_quotient) (defBody s_quotient) (defScope s_quotient) .none kV_quotient dc_quotient pm_quotient an_quotient cd_quotient ct_quotient), sl_quotient⟩)
    (c_quotient : PySem.W.codeIn K cd_quotient "_quotient" = true)
    (k_quotient : PySem.W.keepIn K (.ref f_quotient) = true)
    {f_compute : Addr} {oc_compute : Value} {od_compute an_compute : Option Addr} {sl_compute : Array (Option Value)} {kV_compute dc_compute pm_compute cd_compute ct_compute : Value}
    (a_compute : PySem.W.nsIn K mainGlobals "compute" = some (some (.ref f_compute)))
    (l_compute : K.lookup f_compute = some ⟨oc_compute, od_compute, .func (PySem.W.fnOf "compute" "compute" (defArgs s_compute) (defBody s_compute) (defScope s_compute) .none kV_compute dc_compute pm_compute an_compute cd_compute ct_compute), sl_compute⟩)
    (c_compute : PySem.W.codeIn K cd_compute "compute" = true)
    (k_compute : PySem.W.keepIn K (.ref f_compute) = true)
    {f_Unit___init__ : Addr} {oc_Unit___init__ : Value} {od_Unit___init__ an_Unit___init__ : Option Addr} {sl_Unit___init__ : Array (Option Value)} {kV_Unit___init__ dc_Unit___init__ pm_Unit___init__ cd_Unit___init__ ct_Unit___init__ : Value}
    (a_Unit___init__ : PySem.W.findIn K (.ref C_Unit) "__init__" = some (some (.ref f_Unit___init__)))
    (i_Unit___init__ : PySem.W.isFn K (.ref f_Unit___init__) = true)
    (l_Unit___init__ : K.lookup f_Unit___init__ = some ⟨oc_Unit___init__, od_Unit___init__, .func (PySem.W.fnOf "__init__" "Unit.__init__" (defArgs s_Unit___init__) (defBody s_Unit___init__) (defScope s_Unit___init__) .none kV_Unit___init__ dc_Unit___init__ pm_Unit___init__ an_Unit___init__ cd_Unit___init__ ct_Unit___init__), sl_Unit___init__⟩)
    (c_Unit___init__ : PySem.W.codeIn K cd_Unit___init__ "Unit.__init__" = true)
    (k_Unit___init__ : PySem.W.keepIn K (.ref f_Unit___init__) = true)
    {f_Module___init__ : Addr} {oc_Module___init__ : Value} {od_Module___init__ an_Module___init__ : Option Addr} {sl_Module___init__ : Array (Option Value)} {kV_Module___init__ dc_Module___init__ pm_Module___init__ cd_Module___init__ ct_Module___init__ : Value}
    (a_Module___init__ : PySem.W.findIn K (.ref C_Module) "__init__" = some (some (.ref f_Module___init__)))
    (i_Module___init__ : PySem.W.isFn K (.ref f_Module___init__) = true)
    (l_Module___init__ : K.lookup f_Module___init__ = some ⟨oc_Module___init__, od_Module___init__, .func (PySem.W.fnOf "__init__" "Module.__init__" (defArgs s_Module___init__) (defBody s_Module___init__) (defScope s_Module___init__) .none kV_Module___init__ dc_Module___init__ pm_Module___init__ an_Module___init__ cd_Module___init__ ct_Module___init__), sl_Module___init__⟩)
    (c_Module___init__ : PySem.W.codeIn K cd_Module___init__ "Module.__init__" = true)
    (k_Module___init__ : PySem.W.keepIn K (.ref f_Module___init__) = true)
    {f_region_of : Addr} {oc_region_of : Value} {od_region_of an_region_of : Option Addr} {sl_region_of : Array (Option Value)} {kV_region_of dc_region_of pm_region_of cd_region_of ct_region_of : Value}
    (a_region_of : PySem.W.nsIn K mainGlobals "region_of" = some (some (.ref f_region_of)))
    (l_region_of : K.lookup f_region_of = some ⟨oc_region_of, od_region_of, .func (PySem.W.fnOf "region_of" "region_of" (defArgs s_region_of) (defBody s_region_of) (defScope s_region_of) .none kV_region_of dc_region_of pm_region_of an_region_of cd_region_of ct_region_of), sl_region_of⟩)
    (c_region_of : PySem.W.codeIn K cd_region_of "region_of" = true)
    (k_region_of : PySem.W.keepIn K (.ref f_region_of) = true)
    {f_Events___init__ : Addr} {oc_Events___init__ : Value} {od_Events___init__ an_Events___init__ : Option Addr} {sl_Events___init__ : Array (Option Value)} {kV_Events___init__ dc_Events___init__ pm_Events___init__ cd_Events___init__ ct_Events___init__ : Value}
    (a_Events___init__ : PySem.W.findIn K (.ref C_Events) "__init__" = some (some (.ref f_Events___init__)))
    (i_Events___init__ : PySem.W.isFn K (.ref f_Events___init__) = true)
    (l_Events___init__ : K.lookup f_Events___init__ = some ⟨oc_Events___init__, od_Events___init__, .func (PySem.W.fnOf "__init__" "Events.__init__" (defArgs s_Events___init__) (defBody s_Events___init__) (defScope s_Events___init__) .none kV_Events___init__ dc_Events___init__ pm_Events___init__ an_Events___init__ cd_Events___init__ ct_Events___init__), sl_Events___init__⟩)
    (c_Events___init__ : PySem.W.codeIn K cd_Events___init__ "Events.__init__" = true)
    (k_Events___init__ : PySem.W.keepIn K (.ref f_Events___init__) = true)
    {f_Events_put : Addr} {oc_Events_put : Value} {od_Events_put an_Events_put : Option Addr} {sl_Events_put : Array (Option Value)} {kV_Events_put dc_Events_put pm_Events_put cd_Events_put ct_Events_put : Value}
    (a_Events_put : PySem.W.findIn K (.ref C_Events) "put" = some (some (.ref f_Events_put)))
    (i_Events_put : PySem.W.isFn K (.ref f_Events_put) = true)
    (l_Events_put : K.lookup f_Events_put = some ⟨oc_Events_put, od_Events_put, .func (PySem.W.fnOf "put" "Events.put" (defArgs s_Events_put) (defBody s_Events_put) (defScope s_Events_put) .none kV_Events_put dc_Events_put pm_Events_put an_Events_put cd_Events_put ct_Events_put), sl_Events_put⟩)
    (c_Events_put : PySem.W.codeIn K cd_Events_put "Events.put" = true)
    (k_Events_put : PySem.W.keepIn K (.ref f_Events_put) = true)
    {f_Events_get : Addr} {oc_Events_get : Value} {od_Events_get an_Events_get : Option Addr} {sl_Events_get : Array (Option Value)} {kV_Events_get dc_Events_get pm_Events_get cd_Events_get ct_Events_get : Value}
    (a_Events_get : PySem.W.findIn K (.ref C_Events) "get" = some (some (.ref f_Events_get)))
    (i_Events_get : PySem.W.isFn K (.ref f_Events_get) = true)
    (l_Events_get : K.lookup f_Events_get = some ⟨oc_Events_get, od_Events_get, .func (PySem.W.fnOf "get" "Events.get" (defArgs s_Events_get) (defBody s_Events_get) (defScope s_Events_get) .none kV_Events_get dc_Events_get pm_Events_get an_Events_get cd_Events_get ct_Events_get), sl_Events_get⟩)
    (c_Events_get : PySem.W.codeIn K cd_Events_get "Events.get" = true)
    (k_Events_get : PySem.W.keepIn K (.ref f_Events_get) = true)
    {f_Events_rows : Addr} {oc_Events_rows : Value} {od_Events_rows an_Events_rows : Option Addr} {sl_Events_rows : Array (Option Value)} {kV_Events_rows dc_Events_rows pm_Events_rows cd_Events_rows ct_Events_rows : Value}
    {p_Events_rows : Addr} {rs_Events_rows : List Value} (a_Events_rows : PySem.W.findIn K (.ref C_Events) "rows" = some (some (.ref p_Events_rows)))
    (g_Events_rows : PySem.W.specialIn K (.ref p_Events_rows) "__get__" = some (some (.builtin "property.__get__")))
    (t_Events_rows : PySem.W.takesIn K (.ref p_Events_rows) = some true)
    (r_Events_rows : PySem.W.recIn K p_Events_rows "property" = some (.ref f_Events_rows :: rs_Events_rows))
    (l_Events_rows : K.lookup f_Events_rows = some ⟨oc_Events_rows, od_Events_rows, .func (PySem.W.fnOf "rows" "Events.rows" (defArgs s_Events_rows) (defBody s_Events_rows) (defScope s_Events_rows) .none kV_Events_rows dc_Events_rows pm_Events_rows an_Events_rows cd_Events_rows ct_Events_rows), sl_Events_rows⟩)
    (c_Events_rows : PySem.W.codeIn K cd_Events_rows "Events.rows" = true)
    (k_Events_rows : PySem.W.keepIn K (.ref f_Events_rows) = true)
    {f_Fuel___init__ : Addr} {oc_Fuel___init__ : Value} {od_Fuel___init__ an_Fuel___init__ : Option Addr} {sl_Fuel___init__ : Array (Option Value)} {kV_Fuel___init__ dc_Fuel___init__ pm_Fuel___init__ cd_Fuel___init__ ct_Fuel___init__ : Value}
    (a_Fuel___init__ : PySem.W.findIn K (.ref C_Fuel) "__init__" = some (some (.ref f_Fuel___init__)))
    (i_Fuel___init__ : PySem.W.isFn K (.ref f_Fuel___init__) = true)
    (l_Fuel___init__ : K.lookup f_Fuel___init__ = some ⟨oc_Fuel___init__, od_Fuel___init__, .func (PySem.W.fnOf "__init__" "Fuel.__init__" (defArgs s_Fuel___init__) (defBody s_Fuel___init__) (defScope s_Fuel___init__) .none kV_Fuel___init__ dc_Fuel___init__ pm_Fuel___init__ an_Fuel___init__ cd_Fuel___init__ ct_Fuel___init__), sl_Fuel___init__⟩)
    (c_Fuel___init__ : PySem.W.codeIn K cd_Fuel___init__ "Fuel.__init__" = true)
    (k_Fuel___init__ : PySem.W.keepIn K (.ref f_Fuel___init__) = true)
    {f_Fuel_tick : Addr} {oc_Fuel_tick : Value} {od_Fuel_tick an_Fuel_tick : Option Addr} {sl_Fuel_tick : Array (Option Value)} {kV_Fuel_tick dc_Fuel_tick pm_Fuel_tick cd_Fuel_tick ct_Fuel_tick : Value}
    (a_Fuel_tick : PySem.W.findIn K (.ref C_Fuel) "tick" = some (some (.ref f_Fuel_tick)))
    (i_Fuel_tick : PySem.W.isFn K (.ref f_Fuel_tick) = true)
    (l_Fuel_tick : K.lookup f_Fuel_tick = some ⟨oc_Fuel_tick, od_Fuel_tick, .func (PySem.W.fnOf "tick" "Fuel.tick" (defArgs s_Fuel_tick) (defBody s_Fuel_tick) (defScope s_Fuel_tick) .none kV_Fuel_tick dc_Fuel_tick pm_Fuel_tick an_Fuel_tick cd_Fuel_tick ct_Fuel_tick), sl_Fuel_tick⟩)
    (c_Fuel_tick : PySem.W.codeIn K cd_Fuel_tick "Fuel.tick" = true)
    (k_Fuel_tick : PySem.W.keepIn K (.ref f_Fuel_tick) = true)
    {f_Fuel_remaining : Addr} {oc_Fuel_remaining : Value} {od_Fuel_remaining an_Fuel_remaining : Option Addr} {sl_Fuel_remaining : Array (Option Value)} {kV_Fuel_remaining dc_Fuel_remaining pm_Fuel_remaining cd_Fuel_remaining ct_Fuel_remaining : Value}
    {p_Fuel_remaining : Addr} {rs_Fuel_remaining : List Value} (a_Fuel_remaining : PySem.W.findIn K (.ref C_Fuel) "remaining" = some (some (.ref p_Fuel_remaining)))
    (g_Fuel_remaining : PySem.W.specialIn K (.ref p_Fuel_remaining) "__get__" = some (some (.builtin "property.__get__")))
    (t_Fuel_remaining : PySem.W.takesIn K (.ref p_Fuel_remaining) = some true)
    (r_Fuel_remaining : PySem.W.recIn K p_Fuel_remaining "property" = some (.ref f_Fuel_remaining :: rs_Fuel_remaining))
    (l_Fuel_remaining : K.lookup f_Fuel_remaining = some ⟨oc_Fuel_remaining, od_Fuel_remaining, .func (PySem.W.fnOf "remaining" "Fuel.remaining" (defArgs s_Fuel_remaining) (defBody s_Fuel_remaining) (defScope s_Fuel_remaining) .none kV_Fuel_remaining dc_Fuel_remaining pm_Fuel_remaining an_Fuel_remaining cd_Fuel_remaining ct_Fuel_remaining), sl_Fuel_remaining⟩)
    (c_Fuel_remaining : PySem.W.codeIn K cd_Fuel_remaining "Fuel.remaining" = true)
    (k_Fuel_remaining : PySem.W.keepIn K (.ref f_Fuel_remaining) = true)
    {f_Layout___init__ : Addr} {oc_Layout___init__ : Value} {od_Layout___init__ an_Layout___init__ : Option Addr} {sl_Layout___init__ : Array (Option Value)} {kV_Layout___init__ dc_Layout___init__ pm_Layout___init__ cd_Layout___init__ ct_Layout___init__ : Value}
    (a_Layout___init__ : PySem.W.findIn K (.ref C_Layout) "__init__" = some (some (.ref f_Layout___init__)))
    (i_Layout___init__ : PySem.W.isFn K (.ref f_Layout___init__) = true)
    (l_Layout___init__ : K.lookup f_Layout___init__ = some ⟨oc_Layout___init__, od_Layout___init__, .func (PySem.W.fnOf "__init__" "Layout.__init__" (defArgs s_Layout___init__) (defBody s_Layout___init__) (defScope s_Layout___init__) .none kV_Layout___init__ dc_Layout___init__ pm_Layout___init__ an_Layout___init__ cd_Layout___init__ ct_Layout___init__), sl_Layout___init__⟩)
    (c_Layout___init__ : PySem.W.codeIn K cd_Layout___init__ "Layout.__init__" = true)
    (k_Layout___init__ : PySem.W.keepIn K (.ref f_Layout___init__) = true)
    {f_plain_layout : Addr} {oc_plain_layout : Value} {od_plain_layout an_plain_layout : Option Addr} {sl_plain_layout : Array (Option Value)} {kV_plain_layout dc_plain_layout pm_plain_layout cd_plain_layout ct_plain_layout : Value}
    (a_plain_layout : PySem.W.nsIn K mainGlobals "plain_layout" = some (some (.ref f_plain_layout)))
    (l_plain_layout : K.lookup f_plain_layout = some ⟨oc_plain_layout, od_plain_layout, .func (PySem.W.fnOf "plain_layout" "plain_layout" (defArgs s_plain_layout) (defBody s_plain_layout) (defScope s_plain_layout) .none kV_plain_layout dc_plain_layout pm_plain_layout an_plain_layout cd_plain_layout ct_plain_layout), sl_plain_layout⟩)
    (c_plain_layout : PySem.W.codeIn K cd_plain_layout "plain_layout" = true)
    (k_plain_layout : PySem.W.keepIn K (.ref f_plain_layout) = true)
    {f_Activation___init__ : Addr} {oc_Activation___init__ : Value} {od_Activation___init__ an_Activation___init__ : Option Addr} {sl_Activation___init__ : Array (Option Value)} {kV_Activation___init__ dc_Activation___init__ pm_Activation___init__ cd_Activation___init__ ct_Activation___init__ : Value}
    (a_Activation___init__ : PySem.W.findIn K (.ref C_Activation) "__init__" = some (some (.ref f_Activation___init__)))
    (i_Activation___init__ : PySem.W.isFn K (.ref f_Activation___init__) = true)
    (l_Activation___init__ : K.lookup f_Activation___init__ = some ⟨oc_Activation___init__, od_Activation___init__, .func (PySem.W.fnOf "__init__" "Activation.__init__" (defArgs s_Activation___init__) (defBody s_Activation___init__) (defScope s_Activation___init__) .none kV_Activation___init__ dc_Activation___init__ pm_Activation___init__ an_Activation___init__ cd_Activation___init__ ct_Activation___init__), sl_Activation___init__⟩)
    (c_Activation___init__ : PySem.W.codeIn K cd_Activation___init__ "Activation.__init__" = true)
    (k_Activation___init__ : PySem.W.keepIn K (.ref f_Activation___init__) = true)
    {f_Activation_value : Addr} {oc_Activation_value : Value} {od_Activation_value an_Activation_value : Option Addr} {sl_Activation_value : Array (Option Value)} {kV_Activation_value dc_Activation_value pm_Activation_value cd_Activation_value ct_Activation_value : Value}
    (a_Activation_value : PySem.W.findIn K (.ref C_Activation) "value" = some (some (.ref f_Activation_value)))
    (i_Activation_value : PySem.W.isFn K (.ref f_Activation_value) = true)
    (l_Activation_value : K.lookup f_Activation_value = some ⟨oc_Activation_value, od_Activation_value, .func (PySem.W.fnOf "value" "Activation.value" (defArgs s_Activation_value) (defBody s_Activation_value) (defScope s_Activation_value) .none kV_Activation_value dc_Activation_value pm_Activation_value an_Activation_value cd_Activation_value ct_Activation_value), sl_Activation_value⟩)
    (c_Activation_value : PySem.W.codeIn K cd_Activation_value "Activation.value" = true)
    (k_Activation_value : PySem.W.keepIn K (.ref f_Activation_value) = true)
    {f_Activation_write : Addr} {oc_Activation_write : Value} {od_Activation_write an_Activation_write : Option Addr} {sl_Activation_write : Array (Option Value)} {kV_Activation_write dc_Activation_write pm_Activation_write cd_Activation_write ct_Activation_write : Value}
    (a_Activation_write : PySem.W.findIn K (.ref C_Activation) "write" = some (some (.ref f_Activation_write)))
    (i_Activation_write : PySem.W.isFn K (.ref f_Activation_write) = true)
    (l_Activation_write : K.lookup f_Activation_write = some ⟨oc_Activation_write, od_Activation_write, .func (PySem.W.fnOf "write" "Activation.write" (defArgs s_Activation_write) (defBody s_Activation_write) (defScope s_Activation_write) .none kV_Activation_write dc_Activation_write pm_Activation_write an_Activation_write cd_Activation_write ct_Activation_write), sl_Activation_write⟩)
    (c_Activation_write : PySem.W.codeIn K cd_Activation_write "Activation.write" = true)
    (k_Activation_write : PySem.W.keepIn K (.ref f_Activation_write) = true)
    {f_Activation_outward : Addr} {oc_Activation_outward : Value} {od_Activation_outward an_Activation_outward : Option Addr} {sl_Activation_outward : Array (Option Value)} {kV_Activation_outward dc_Activation_outward pm_Activation_outward cd_Activation_outward ct_Activation_outward : Value}
    (a_Activation_outward : PySem.W.findIn K (.ref C_Activation) "outward" = some (some (.ref f_Activation_outward)))
    (i_Activation_outward : PySem.W.isFn K (.ref f_Activation_outward) = true)
    (l_Activation_outward : K.lookup f_Activation_outward = some ⟨oc_Activation_outward, od_Activation_outward, .func (PySem.W.fnOf "outward" "Activation.outward" (defArgs s_Activation_outward) (defBody s_Activation_outward) (defScope s_Activation_outward) .none kV_Activation_outward dc_Activation_outward pm_Activation_outward an_Activation_outward cd_Activation_outward ct_Activation_outward), sl_Activation_outward⟩)
    (c_Activation_outward : PySem.W.codeIn K cd_Activation_outward "Activation.outward" = true)
    (k_Activation_outward : PySem.W.keepIn K (.ref f_Activation_outward) = true)
    {f_Machine___init__ : Addr} {oc_Machine___init__ : Value} {od_Machine___init__ an_Machine___init__ : Option Addr} {sl_Machine___init__ : Array (Option Value)} {kV_Machine___init__ dc_Machine___init__ pm_Machine___init__ cd_Machine___init__ ct_Machine___init__ : Value}
    (a_Machine___init__ : PySem.W.findIn K (.ref C_Machine) "__init__" = some (some (.ref f_Machine___init__)))
    (i_Machine___init__ : PySem.W.isFn K (.ref f_Machine___init__) = true)
    (l_Machine___init__ : K.lookup f_Machine___init__ = some ⟨oc_Machine___init__, od_Machine___init__, .func (PySem.W.fnOf "__init__" "Machine.__init__" (defArgs s_Machine___init__) (defBody s_Machine___init__) (defScope s_Machine___init__) .none kV_Machine___init__ dc_Machine___init__ pm_Machine___init__ an_Machine___init__ cd_Machine___init__ ct_Machine___init__), sl_Machine___init__⟩)
    (c_Machine___init__ : PySem.W.codeIn K cd_Machine___init__ "Machine.__init__" = true)
    (k_Machine___init__ : PySem.W.keepIn K (.ref f_Machine___init__) = true)
    {f_Machine_activate : Addr} {oc_Machine_activate : Value} {od_Machine_activate an_Machine_activate : Option Addr} {sl_Machine_activate : Array (Option Value)} {kV_Machine_activate dc_Machine_activate pm_Machine_activate cd_Machine_activate ct_Machine_activate : Value}
    (a_Machine_activate : PySem.W.findIn K (.ref C_Machine) "activate" = some (some (.ref f_Machine_activate)))
    (i_Machine_activate : PySem.W.isFn K (.ref f_Machine_activate) = true)
    (l_Machine_activate : K.lookup f_Machine_activate = some ⟨oc_Machine_activate, od_Machine_activate, .func (PySem.W.fnOf "activate" "Machine.activate" (defArgs s_Machine_activate) (defBody s_Machine_activate) (defScope s_Machine_activate) .none kV_Machine_activate dc_Machine_activate pm_Machine_activate an_Machine_activate cd_Machine_activate ct_Machine_activate), sl_Machine_activate⟩)
    (c_Machine_activate : PySem.W.codeIn K cd_Machine_activate "Machine.activate" = true)
    (k_Machine_activate : PySem.W.keepIn K (.ref f_Machine_activate) = true)
    {f_Machine_step : Addr} {oc_Machine_step : Value} {od_Machine_step an_Machine_step : Option Addr} {sl_Machine_step : Array (Option Value)} {kV_Machine_step dc_Machine_step pm_Machine_step cd_Machine_step ct_Machine_step : Value}
    (a_Machine_step : PySem.W.findIn K (.ref C_Machine) "step" = some (some (.ref f_Machine_step)))
    (i_Machine_step : PySem.W.isFn K (.ref f_Machine_step) = true)
    (l_Machine_step : K.lookup f_Machine_step = some ⟨oc_Machine_step, od_Machine_step, .func (PySem.W.fnOf "step" "Machine.step" (defArgs s_Machine_step) (defBody s_Machine_step) (defScope s_Machine_step) .none kV_Machine_step dc_Machine_step pm_Machine_step an_Machine_step cd_Machine_step ct_Machine_step), sl_Machine_step⟩)
    (c_Machine_step : PySem.W.codeIn K cd_Machine_step "Machine.step" = true)
    (k_Machine_step : PySem.W.keepIn K (.ref f_Machine_step) = true)
    {f_Machine_finish : Addr} {oc_Machine_finish : Value} {od_Machine_finish an_Machine_finish : Option Addr} {sl_Machine_finish : Array (Option Value)} {kV_Machine_finish dc_Machine_finish pm_Machine_finish cd_Machine_finish ct_Machine_finish : Value}
    (a_Machine_finish : PySem.W.findIn K (.ref C_Machine) "finish" = some (some (.ref f_Machine_finish)))
    (i_Machine_finish : PySem.W.isFn K (.ref f_Machine_finish) = true)
    (l_Machine_finish : K.lookup f_Machine_finish = some ⟨oc_Machine_finish, od_Machine_finish, .func (PySem.W.fnOf "finish" "Machine.finish" (defArgs s_Machine_finish) (defBody s_Machine_finish) (defScope s_Machine_finish) .none kV_Machine_finish dc_Machine_finish pm_Machine_finish an_Machine_finish cd_Machine_finish ct_Machine_finish), sl_Machine_finish⟩)
    (c_Machine_finish : PySem.W.codeIn K cd_Machine_finish "Machine.finish" = true)
    (k_Machine_finish : PySem.W.keepIn K (.ref f_Machine_finish) = true)
    {f_Machine_raise_exception : Addr} {oc_Machine_raise_exception : Value} {od_Machine_raise_exception an_Machine_raise_exception : Option Addr} {sl_Machine_raise_exception : Array (Option Value)} {kV_Machine_raise_exception dc_Machine_raise_exception pm_Machine_raise_exception cd_Machine_raise_exception ct_Machine_raise_exception : Value}
    (a_Machine_raise_exception : PySem.W.findIn K (.ref C_Machine) "raise_exception" = some (some (.ref f_Machine_raise_exception)))
    (i_Machine_raise_exception : PySem.W.isFn K (.ref f_Machine_raise_exception) = true)
    (l_Machine_raise_exception : K.lookup f_Machine_raise_exception = some ⟨oc_Machine_raise_exception, od_Machine_raise_exception, .func (PySem.W.fnOf "raise_exception" "Machine.raise_exception" (defArgs s_Machine_raise_exception) (defBody s_Machine_raise_exception) (defScope s_Machine_raise_exception) .none kV_Machine_raise_exception dc_Machine_raise_exception pm_Machine_raise_exception an_Machine_raise_exception cd_Machine_raise_exception ct_Machine_raise_exception), sl_Machine_raise_exception⟩)
    (c_Machine_raise_exception : PySem.W.codeIn K cd_Machine_raise_exception "Machine.raise_exception" = true)
    (k_Machine_raise_exception : PySem.W.keepIn K (.ref f_Machine_raise_exception) = true)
    {f_do_tick : Addr} {oc_do_tick : Value} {od_do_tick an_do_tick : Option Addr} {sl_do_tick : Array (Option Value)} {kV_do_tick dc_do_tick pm_do_tick cd_do_tick ct_do_tick : Value}
    (a_do_tick : PySem.W.nsIn K mainGlobals "_do_tick" = some (some (.ref f_do_tick)))
    (l_do_tick : K.lookup f_do_tick = some ⟨oc_do_tick, od_do_tick, .func (PySem.W.fnOf "_do_tick" "_do_tick" (defArgs s_do_tick) (defBody s_do_tick) (defScope s_do_tick) .none kV_do_tick dc_do_tick pm_do_tick an_do_tick cd_do_tick ct_do_tick), sl_do_tick⟩)
    (c_do_tick : PySem.W.codeIn K cd_do_tick "_do_tick" = true)
    (k_do_tick : PySem.W.keepIn K (.ref f_do_tick) = true)
    {f_do_move : Addr} {oc_do_move : Value} {od_do_move an_do_move : Option Addr} {sl_do_move : Array (Option Value)} {kV_do_move dc_do_move pm_do_move cd_do_move ct_do_move : Value}
    (a_do_move : PySem.W.nsIn K mainGlobals "_do_move" = some (some (.ref f_do_move)))
    (l_do_move : K.lookup f_do_move = some ⟨oc_do_move, od_do_move, .func (PySem.W.fnOf "_do_move" "_do_move" (defArgs s_do_move) (defBody s_do_move) (defScope s_do_move) .none kV_do_move dc_do_move pm_do_move an_do_move cd_do_move ct_do_move), sl_do_move⟩)
    (c_do_move : PySem.W.codeIn K cd_do_move "_do_move" = true)
    (k_do_move : PySem.W.keepIn K (.ref f_do_move) = true)
    {f_do_sign : Addr} {oc_do_sign : Value} {od_do_sign an_do_sign : Option Addr} {sl_do_sign : Array (Option Value)} {kV_do_sign dc_do_sign pm_do_sign cd_do_sign ct_do_sign : Value}
    (a_do_sign : PySem.W.nsIn K mainGlobals "_do_sign" = some (some (.ref f_do_sign)))
    (l_do_sign : K.lookup f_do_sign = some ⟨oc_do_sign, od_do_sign, .func (PySem.W.fnOf "_do_sign" "_do_sign" (defArgs s_do_sign) (defBody s_do_sign) (defScope s_do_sign) .none kV_do_sign dc_do_sign pm_do_sign an_do_sign cd_do_sign ct_do_sign), sl_do_sign⟩)
    (c_do_sign : PySem.W.codeIn K cd_do_sign "_do_sign" = true)
    (k_do_sign : PySem.W.keepIn K (.ref f_do_sign) = true)
    {f_do_arithmetic : Addr} {oc_do_arithmetic : Value} {od_do_arithmetic an_do_arithmetic : Option Addr} {sl_do_arithmetic : Array (Option Value)} {kV_do_arithmetic dc_do_arithmetic pm_do_arithmetic cd_do_arithmetic ct_do_arithmetic : Value}
    (a_do_arithmetic : PySem.W.nsIn K mainGlobals "_do_arithmetic" = some (some (.ref f_do_arithmetic)))
    (l_do_arithmetic : K.lookup f_do_arithmetic = some ⟨oc_do_arithmetic, od_do_arithmetic, .func (PySem.W.fnOf "_do_arithmetic" "_do_arithmetic" (defArgs s_do_arithmetic) (defBody s_do_arithmetic) (defScope s_do_arithmetic) .none kV_do_arithmetic dc_do_arithmetic pm_do_arithmetic an_do_arithmetic cd_do_arithmetic ct_do_arithmetic), sl_do_arithmetic⟩)
    (c_do_arithmetic : PySem.W.codeIn K cd_do_arithmetic "_do_arithmetic" = true)
    (k_do_arithmetic : PySem.W.keepIn K (.ref f_do_arithmetic) = true)
    {f_do_compare : Addr} {oc_do_compare : Value} {od_do_compare an_do_compare : Option Addr} {sl_do_compare : Array (Option Value)} {kV_do_compare dc_do_compare pm_do_compare cd_do_compare ct_do_compare : Value}
    (a_do_compare : PySem.W.nsIn K mainGlobals "_do_compare" = some (some (.ref f_do_compare)))
    (l_do_compare : K.lookup f_do_compare = some ⟨oc_do_compare, od_do_compare, .func (PySem.W.fnOf "_do_compare" "_do_compare" (defArgs s_do_compare) (defBody s_do_compare) (defScope s_do_compare) .none kV_do_compare dc_do_compare pm_do_compare an_do_compare cd_do_compare ct_do_compare), sl_do_compare⟩)
    (c_do_compare : PySem.W.codeIn K cd_do_compare "_do_compare" = true)
    (k_do_compare : PySem.W.keepIn K (.ref f_do_compare) = true)
    {f_do_check : Addr} {oc_do_check : Value} {od_do_check an_do_check : Option Addr} {sl_do_check : Array (Option Value)} {kV_do_check dc_do_check pm_do_check cd_do_check ct_do_check : Value}
    (a_do_check : PySem.W.nsIn K mainGlobals "_do_check" = some (some (.ref f_do_check)))
    (l_do_check : K.lookup f_do_check = some ⟨oc_do_check, od_do_check, .func (PySem.W.fnOf "_do_check" "_do_check" (defArgs s_do_check) (defBody s_do_check) (defScope s_do_check) .none kV_do_check dc_do_check pm_do_check an_do_check cd_do_check ct_do_check), sl_do_check⟩)
    (c_do_check : PySem.W.codeIn K cd_do_check "_do_check" = true)
    (k_do_check : PySem.W.keepIn K (.ref f_do_check) = true)
    {f_do_load : Addr} {oc_do_load : Value} {od_do_load an_do_load : Option Addr} {sl_do_load : Array (Option Value)} {kV_do_load dc_do_load pm_do_load cd_do_load ct_do_load : Value}
    (a_do_load : PySem.W.nsIn K mainGlobals "_do_load" = some (some (.ref f_do_load)))
    (l_do_load : K.lookup f_do_load = some ⟨oc_do_load, od_do_load, .func (PySem.W.fnOf "_do_load" "_do_load" (defArgs s_do_load) (defBody s_do_load) (defScope s_do_load) .none kV_do_load dc_do_load pm_do_load an_do_load cd_do_load ct_do_load), sl_do_load⟩)
    (c_do_load : PySem.W.codeIn K cd_do_load "_do_load" = true)
    (k_do_load : PySem.W.keepIn K (.ref f_do_load) = true)
    {f_do_store : Addr} {oc_do_store : Value} {od_do_store an_do_store : Option Addr} {sl_do_store : Array (Option Value)} {kV_do_store dc_do_store pm_do_store cd_do_store ct_do_store : Value}
    (a_do_store : PySem.W.nsIn K mainGlobals "_do_store" = some (some (.ref f_do_store)))
    (l_do_store : K.lookup f_do_store = some ⟨oc_do_store, od_do_store, .func (PySem.W.fnOf "_do_store" "_do_store" (defArgs s_do_store) (defBody s_do_store) (defScope s_do_store) .none kV_do_store dc_do_store pm_do_store an_do_store cd_do_store ct_do_store), sl_do_store⟩)
    (c_do_store : PySem.W.codeIn K cd_do_store "_do_store" = true)
    (k_do_store : PySem.W.keepIn K (.ref f_do_store) = true)
    {f_do_jump : Addr} {oc_do_jump : Value} {od_do_jump an_do_jump : Option Addr} {sl_do_jump : Array (Option Value)} {kV_do_jump dc_do_jump pm_do_jump cd_do_jump ct_do_jump : Value}
    (a_do_jump : PySem.W.nsIn K mainGlobals "_do_jump" = some (some (.ref f_do_jump)))
    (l_do_jump : K.lookup f_do_jump = some ⟨oc_do_jump, od_do_jump, .func (PySem.W.fnOf "_do_jump" "_do_jump" (defArgs s_do_jump) (defBody s_do_jump) (defScope s_do_jump) .none kV_do_jump dc_do_jump pm_do_jump an_do_jump cd_do_jump ct_do_jump), sl_do_jump⟩)
    (c_do_jump : PySem.W.codeIn K cd_do_jump "_do_jump" = true)
    (k_do_jump : PySem.W.keepIn K (.ref f_do_jump) = true)
    {f_do_branch : Addr} {oc_do_branch : Value} {od_do_branch an_do_branch : Option Addr} {sl_do_branch : Array (Option Value)} {kV_do_branch dc_do_branch pm_do_branch cd_do_branch ct_do_branch : Value}
    (a_do_branch : PySem.W.nsIn K mainGlobals "_do_branch" = some (some (.ref f_do_branch)))
    (l_do_branch : K.lookup f_do_branch = some ⟨oc_do_branch, od_do_branch, .func (PySem.W.fnOf "_do_branch" "_do_branch" (defArgs s_do_branch) (defBody s_do_branch) (defScope s_do_branch) .none kV_do_branch dc_do_branch pm_do_branch an_do_branch cd_do_branch ct_do_branch), sl_do_branch⟩)
    (c_do_branch : PySem.W.codeIn K cd_do_branch "_do_branch" = true)
    (k_do_branch : PySem.W.keepIn K (.ref f_do_branch) = true)
    {f_do_call : Addr} {oc_do_call : Value} {od_do_call an_do_call : Option Addr} {sl_do_call : Array (Option Value)} {kV_do_call dc_do_call pm_do_call cd_do_call ct_do_call : Value}
    (a_do_call : PySem.W.nsIn K mainGlobals "_do_call" = some (some (.ref f_do_call)))
    (l_do_call : K.lookup f_do_call = some ⟨oc_do_call, od_do_call, .func (PySem.W.fnOf "_do_call" "_do_call" (defArgs s_do_call) (defBody s_do_call) (defScope s_do_call) .none kV_do_call dc_do_call pm_do_call an_do_call cd_do_call ct_do_call), sl_do_call⟩)
    (c_do_call : PySem.W.codeIn K cd_do_call "_do_call" = true)
    (k_do_call : PySem.W.keepIn K (.ref f_do_call) = true)
    {f_do_return : Addr} {oc_do_return : Value} {od_do_return an_do_return : Option Addr} {sl_do_return : Array (Option Value)} {kV_do_return dc_do_return pm_do_return cd_do_return ct_do_return : Value}
    (a_do_return : PySem.W.nsIn K mainGlobals "_do_return" = some (some (.ref f_do_return)))
    (l_do_return : K.lookup f_do_return = some ⟨oc_do_return, od_do_return, .func (PySem.W.fnOf "_do_return" "_do_return" (defArgs s_do_return) (defBody s_do_return) (defScope s_do_return) .none kV_do_return dc_do_return pm_do_return an_do_return cd_do_return ct_do_return), sl_do_return⟩)
    (c_do_return : PySem.W.codeIn K cd_do_return "_do_return" = true)
    (k_do_return : PySem.W.keepIn K (.ref f_do_return) = true)
    {f_do_raise : Addr} {oc_do_raise : Value} {od_do_raise an_do_raise : Option Addr} {sl_do_raise : Array (Option Value)} {kV_do_raise dc_do_raise pm_do_raise cd_do_raise ct_do_raise : Value}
    (a_do_raise : PySem.W.nsIn K mainGlobals "_do_raise" = some (some (.ref f_do_raise)))
    (l_do_raise : K.lookup f_do_raise = some ⟨oc_do_raise, od_do_raise, .func (PySem.W.fnOf "_do_raise" "_do_raise" (defArgs s_do_raise) (defBody s_do_raise) (defScope s_do_raise) .none kV_do_raise dc_do_raise pm_do_raise an_do_raise cd_do_raise ct_do_raise), sl_do_raise⟩)
    (c_do_raise : PySem.W.codeIn K cd_do_raise "_do_raise" = true)
    (k_do_raise : PySem.W.keepIn K (.ref f_do_raise) = true)
    {f_do_again : Addr} {oc_do_again : Value} {od_do_again an_do_again : Option Addr} {sl_do_again : Array (Option Value)} {kV_do_again dc_do_again pm_do_again cd_do_again ct_do_again : Value}
    (a_do_again : PySem.W.nsIn K mainGlobals "_do_again" = some (some (.ref f_do_again)))
    (l_do_again : K.lookup f_do_again = some ⟨oc_do_again, od_do_again, .func (PySem.W.fnOf "_do_again" "_do_again" (defArgs s_do_again) (defBody s_do_again) (defScope s_do_again) .none kV_do_again dc_do_again pm_do_again an_do_again cd_do_again ct_do_again), sl_do_again⟩)
    (c_do_again : PySem.W.codeIn K cd_do_again "_do_again" = true)
    (k_do_again : PySem.W.keepIn K (.ref f_do_again) = true)
    {f_do_put : Addr} {oc_do_put : Value} {od_do_put an_do_put : Option Addr} {sl_do_put : Array (Option Value)} {kV_do_put dc_do_put pm_do_put cd_do_put ct_do_put : Value}
    (a_do_put : PySem.W.nsIn K mainGlobals "_do_put" = some (some (.ref f_do_put)))
    (l_do_put : K.lookup f_do_put = some ⟨oc_do_put, od_do_put, .func (PySem.W.fnOf "_do_put" "_do_put" (defArgs s_do_put) (defBody s_do_put) (defScope s_do_put) .none kV_do_put dc_do_put pm_do_put an_do_put cd_do_put ct_do_put), sl_do_put⟩)
    (c_do_put : PySem.W.codeIn K cd_do_put "_do_put" = true)
    (k_do_put : PySem.W.keepIn K (.ref f_do_put) = true)
    {f_do_get : Addr} {oc_do_get : Value} {od_do_get an_do_get : Option Addr} {sl_do_get : Array (Option Value)} {kV_do_get dc_do_get pm_do_get cd_do_get ct_do_get : Value}
    (a_do_get : PySem.W.nsIn K mainGlobals "_do_get" = some (some (.ref f_do_get)))
    (l_do_get : K.lookup f_do_get = some ⟨oc_do_get, od_do_get, .func (PySem.W.fnOf "_do_get" "_do_get" (defArgs s_do_get) (defBody s_do_get) (defScope s_do_get) .none kV_do_get dc_do_get pm_do_get an_do_get cd_do_get ct_do_get), sl_do_get⟩)
    (c_do_get : PySem.W.codeIn K cd_do_get "_do_get" = true)
    (k_do_get : PySem.W.keepIn K (.ref f_do_get) = true)
    {f_run_module : Addr} {oc_run_module : Value} {od_run_module an_run_module : Option Addr} {sl_run_module : Array (Option Value)} {kV_run_module dc_run_module pm_run_module cd_run_module ct_run_module : Value}
    (a_run_module : PySem.W.nsIn K mainGlobals "run_module" = some (some (.ref f_run_module)))
    (l_run_module : K.lookup f_run_module = some ⟨oc_run_module, od_run_module, .func (PySem.W.fnOf "run_module" "run_module" (defArgs s_run_module) (defBody s_run_module) (defScope s_run_module) .none kV_run_module dc_run_module pm_run_module an_run_module cd_run_module ct_run_module), sl_run_module⟩)
    (c_run_module : PySem.W.codeIn K cd_run_module "run_module" = true)
    (k_run_module : PySem.W.keepIn K (.ref f_run_module) = true)
    {f_law_start : Addr} {oc_law_start : Value} {od_law_start an_law_start : Option Addr} {sl_law_start : Array (Option Value)} {kV_law_start dc_law_start pm_law_start cd_law_start ct_law_start : Value}
    (a_law_start : PySem.W.nsIn K mainGlobals "_law_start" = some (some (.ref f_law_start)))
    (l_law_start : K.lookup f_law_start = some ⟨oc_law_start, od_law_start, .func (PySem.W.fnOf "_law_start" "_law_start" (defArgs s_law_start) (defBody s_law_start) (defScope s_law_start) .none kV_law_start dc_law_start pm_law_start an_law_start cd_law_start ct_law_start), sl_law_start⟩)
    (c_law_start : PySem.W.codeIn K cd_law_start "_law_start" = true)
    (k_law_start : PySem.W.keepIn K (.ref f_law_start) = true)
    {f_law_take : Addr} {oc_law_take : Value} {od_law_take an_law_take : Option Addr} {sl_law_take : Array (Option Value)} {kV_law_take dc_law_take pm_law_take cd_law_take ct_law_take : Value}
    (a_law_take : PySem.W.nsIn K mainGlobals "_law_take" = some (some (.ref f_law_take)))
    (l_law_take : K.lookup f_law_take = some ⟨oc_law_take, od_law_take, .func (PySem.W.fnOf "_law_take" "_law_take" (defArgs s_law_take) (defBody s_law_take) (defScope s_law_take) .none kV_law_take dc_law_take pm_law_take an_law_take cd_law_take ct_law_take), sl_law_take⟩)
    (c_law_take : PySem.W.codeIn K cd_law_take "_law_take" = true)
    (k_law_take : PySem.W.keepIn K (.ref f_law_take) = true)
    {f_law_place : Addr} {oc_law_place : Value} {od_law_place an_law_place : Option Addr} {sl_law_place : Array (Option Value)} {kV_law_place dc_law_place pm_law_place cd_law_place ct_law_place : Value}
    (a_law_place : PySem.W.nsIn K mainGlobals "_law_place" = some (some (.ref f_law_place)))
    (l_law_place : K.lookup f_law_place = some ⟨oc_law_place, od_law_place, .func (PySem.W.fnOf "_law_place" "_law_place" (defArgs s_law_place) (defBody s_law_place) (defScope s_law_place) .none kV_law_place dc_law_place pm_law_place an_law_place cd_law_place ct_law_place), sl_law_place⟩)
    (c_law_place : PySem.W.codeIn K cd_law_place "_law_place" = true)
    (k_law_place : PySem.W.keepIn K (.ref f_law_place) = true)
    {f_law_region : Addr} {oc_law_region : Value} {od_law_region an_law_region : Option Addr} {sl_law_region : Array (Option Value)} {kV_law_region dc_law_region pm_law_region cd_law_region ct_law_region : Value}
    (a_law_region : PySem.W.nsIn K mainGlobals "_law_region" = some (some (.ref f_law_region)))
    (l_law_region : K.lookup f_law_region = some ⟨oc_law_region, od_law_region, .func (PySem.W.fnOf "_law_region" "_law_region" (defArgs s_law_region) (defBody s_law_region) (defScope s_law_region) .none kV_law_region dc_law_region pm_law_region an_law_region cd_law_region ct_law_region), sl_law_region⟩)
    (c_law_region : PySem.W.codeIn K cd_law_region "_law_region" = true)
    (k_law_region : PySem.W.keepIn K (.ref f_law_region) = true)
    {f_law_shape : Addr} {oc_law_shape : Value} {od_law_shape an_law_shape : Option Addr} {sl_law_shape : Array (Option Value)} {kV_law_shape dc_law_shape pm_law_shape cd_law_shape ct_law_shape : Value}
    (a_law_shape : PySem.W.nsIn K mainGlobals "_law_shape" = some (some (.ref f_law_shape)))
    (l_law_shape : K.lookup f_law_shape = some ⟨oc_law_shape, od_law_shape, .func (PySem.W.fnOf "_law_shape" "_law_shape" (defArgs s_law_shape) (defBody s_law_shape) (defScope s_law_shape) .none kV_law_shape dc_law_shape pm_law_shape an_law_shape cd_law_shape ct_law_shape), sl_law_shape⟩)
    (c_law_shape : PySem.W.codeIn K cd_law_shape "_law_shape" = true)
    (k_law_shape : PySem.W.keepIn K (.ref f_law_shape) = true)
    {f_law_raising : Addr} {oc_law_raising : Value} {od_law_raising an_law_raising : Option Addr} {sl_law_raising : Array (Option Value)} {kV_law_raising dc_law_raising pm_law_raising cd_law_raising ct_law_raising : Value}
    (a_law_raising : PySem.W.nsIn K mainGlobals "_law_raising" = some (some (.ref f_law_raising)))
    (l_law_raising : K.lookup f_law_raising = some ⟨oc_law_raising, od_law_raising, .func (PySem.W.fnOf "_law_raising" "_law_raising" (defArgs s_law_raising) (defBody s_law_raising) (defScope s_law_raising) .none kV_law_raising dc_law_raising pm_law_raising an_law_raising cd_law_raising ct_law_raising), sl_law_raising⟩)
    (c_law_raising : PySem.W.codeIn K cd_law_raising "_law_raising" = true)
    (k_law_raising : PySem.W.keepIn K (.ref f_law_raising) = true)
    {f_law_unit : Addr} {oc_law_unit : Value} {od_law_unit an_law_unit : Option Addr} {sl_law_unit : Array (Option Value)} {kV_law_unit dc_law_unit pm_law_unit cd_law_unit ct_law_unit : Value}
    (a_law_unit : PySem.W.nsIn K mainGlobals "_law_unit" = some (some (.ref f_law_unit)))
    (l_law_unit : K.lookup f_law_unit = some ⟨oc_law_unit, od_law_unit, .func (PySem.W.fnOf "_law_unit" "_law_unit" (defArgs s_law_unit) (defBody s_law_unit) (defScope s_law_unit) .none kV_law_unit dc_law_unit pm_law_unit an_law_unit cd_law_unit ct_law_unit), sl_law_unit⟩)
    (c_law_unit : PySem.W.codeIn K cd_law_unit "_law_unit" = true)
    (k_law_unit : PySem.W.keepIn K (.ref f_law_unit) = true)
    {f_law_taken : Addr} {oc_law_taken : Value} {od_law_taken an_law_taken : Option Addr} {sl_law_taken : Array (Option Value)} {kV_law_taken dc_law_taken pm_law_taken cd_law_taken ct_law_taken : Value}
    (a_law_taken : PySem.W.nsIn K mainGlobals "_law_taken" = some (some (.ref f_law_taken)))
    (l_law_taken : K.lookup f_law_taken = some ⟨oc_law_taken, od_law_taken, .func (PySem.W.fnOf "_law_taken" "_law_taken" (defArgs s_law_taken) (defBody s_law_taken) (defScope s_law_taken) .none kV_law_taken dc_law_taken pm_law_taken an_law_taken cd_law_taken ct_law_taken), sl_law_taken⟩)
    (c_law_taken : PySem.W.codeIn K cd_law_taken "_law_taken" = true)
    (k_law_taken : PySem.W.keepIn K (.ref f_law_taken) = true)
    {f_law_rows : Addr} {oc_law_rows : Value} {od_law_rows an_law_rows : Option Addr} {sl_law_rows : Array (Option Value)} {kV_law_rows dc_law_rows pm_law_rows cd_law_rows ct_law_rows : Value}
    (a_law_rows : PySem.W.nsIn K mainGlobals "_law_rows" = some (some (.ref f_law_rows)))
    (l_law_rows : K.lookup f_law_rows = some ⟨oc_law_rows, od_law_rows, .func (PySem.W.fnOf "_law_rows" "_law_rows" (defArgs s_law_rows) (defBody s_law_rows) (defScope s_law_rows) .none kV_law_rows dc_law_rows pm_law_rows an_law_rows cd_law_rows ct_law_rows), sl_law_rows⟩)
    (c_law_rows : PySem.W.codeIn K cd_law_rows "_law_rows" = true)
    (k_law_rows : PySem.W.keepIn K (.ref f_law_rows) = true)
    {f_law_walk : Addr} {oc_law_walk : Value} {od_law_walk an_law_walk : Option Addr} {sl_law_walk : Array (Option Value)} {kV_law_walk dc_law_walk pm_law_walk cd_law_walk ct_law_walk : Value}
    (a_law_walk : PySem.W.nsIn K mainGlobals "_law_walk" = some (some (.ref f_law_walk)))
    (l_law_walk : K.lookup f_law_walk = some ⟨oc_law_walk, od_law_walk, .func (PySem.W.fnOf "_law_walk" "_law_walk" (defArgs s_law_walk) (defBody s_law_walk) (defScope s_law_walk) .none kV_law_walk dc_law_walk pm_law_walk an_law_walk cd_law_walk ct_law_walk), sl_law_walk⟩)
    (c_law_walk : PySem.W.codeIn K cd_law_walk "_law_walk" = true)
    (k_law_walk : PySem.W.keepIn K (.ref f_law_walk) = true)
    {f_law_alike : Addr} {oc_law_alike : Value} {od_law_alike an_law_alike : Option Addr} {sl_law_alike : Array (Option Value)} {kV_law_alike dc_law_alike pm_law_alike cd_law_alike ct_law_alike : Value}
    (a_law_alike : PySem.W.nsIn K mainGlobals "_law_alike" = some (some (.ref f_law_alike)))
    (l_law_alike : K.lookup f_law_alike = some ⟨oc_law_alike, od_law_alike, .func (PySem.W.fnOf "_law_alike" "_law_alike" (defArgs s_law_alike) (defBody s_law_alike) (defScope s_law_alike) .none kV_law_alike dc_law_alike pm_law_alike an_law_alike cd_law_alike ct_law_alike), sl_law_alike⟩)
    (c_law_alike : PySem.W.codeIn K cd_law_alike "_law_alike" = true)
    (k_law_alike : PySem.W.keepIn K (.ref f_law_alike) = true)
    {f_law : Addr} {oc_law : Value} {od_law an_law : Option Addr} {sl_law : Array (Option Value)} {kV_law dc_law pm_law cd_law ct_law : Value}
    (a_law : PySem.W.nsIn K mainGlobals "law" = some (some (.ref f_law)))
    (l_law : K.lookup f_law = some ⟨oc_law, od_law, .func (PySem.W.fnOf "law" "law" (defArgs s_law) (defBody s_law) (defScope s_law) .none kV_law dc_law pm_law an_law cd_law ct_law), sl_law⟩)
    (c_law : PySem.W.codeIn K cd_law "law" = true)
    (k_law : PySem.W.keepIn K (.ref f_law) = true)
    {c_ACTIONS : Addr} {es_ACTIONS : Array DictEntry} {n_ACTIONS : Nat} (a_ACTIONS : PySem.W.nsIn K mainGlobals "ACTIONS" = some (some (.ref c_ACTIONS))) (l_ACTIONS : K.lookup c_ACTIONS = some ⟨.type "dict", none, .dict es_ACTIONS n_ACTIONS, #[]⟩) (lit_ACTIONS : PySem.W.KeysLit w.params es_ACTIONS.toList)
    (v_ACTIONS_tick : PySem.W.nsIn K c_ACTIONS "tick" = some (some (.ref f_do_tick)))
    (v_ACTIONS_move : PySem.W.nsIn K c_ACTIONS "move" = some (some (.ref f_do_move)))
    (v_ACTIONS_neg : PySem.W.nsIn K c_ACTIONS "neg" = some (some (.ref f_do_sign)))
    (v_ACTIONS_abs : PySem.W.nsIn K c_ACTIONS "abs" = some (some (.ref f_do_sign)))
    (v_ACTIONS_add : PySem.W.nsIn K c_ACTIONS "add" = some (some (.ref f_do_arithmetic)))
    (v_ACTIONS_sub : PySem.W.nsIn K c_ACTIONS "sub" = some (some (.ref f_do_arithmetic)))
    (v_ACTIONS_mul : PySem.W.nsIn K c_ACTIONS "mul" = some (some (.ref f_do_arithmetic)))
    (v_ACTIONS_div : PySem.W.nsIn K c_ACTIONS "div" = some (some (.ref f_do_arithmetic)))
    (v_ACTIONS_mod : PySem.W.nsIn K c_ACTIONS "mod" = some (some (.ref f_do_arithmetic)))
    (v_ACTIONS_rem : PySem.W.nsIn K c_ACTIONS "rem" = some (some (.ref f_do_arithmetic)))
    (v_ACTIONS_less : PySem.W.nsIn K c_ACTIONS "less" = some (some (.ref f_do_compare)))
    (v_ACTIONS_equal : PySem.W.nsIn K c_ACTIONS "equal" = some (some (.ref f_do_compare)))
    (v_ACTIONS_check : PySem.W.nsIn K c_ACTIONS "check" = some (some (.ref f_do_check)))
    (v_ACTIONS_load : PySem.W.nsIn K c_ACTIONS "load" = some (some (.ref f_do_load)))
    (v_ACTIONS_store : PySem.W.nsIn K c_ACTIONS "store" = some (some (.ref f_do_store)))
    (v_ACTIONS_jump : PySem.W.nsIn K c_ACTIONS "jump" = some (some (.ref f_do_jump)))
    (v_ACTIONS_branch : PySem.W.nsIn K c_ACTIONS "branch" = some (some (.ref f_do_branch)))
    (v_ACTIONS_call : PySem.W.nsIn K c_ACTIONS "call" = some (some (.ref f_do_call)))
    (v_ACTIONS_return : PySem.W.nsIn K c_ACTIONS "return" = some (some (.ref f_do_return)))
    (v_ACTIONS_raise : PySem.W.nsIn K c_ACTIONS "raise" = some (some (.ref f_do_raise)))
    (v_ACTIONS_again : PySem.W.nsIn K c_ACTIONS "again" = some (some (.ref f_do_again)))
    (v_ACTIONS_put : PySem.W.nsIn K c_ACTIONS "put" = some (some (.ref f_do_put)))
    (v_ACTIONS_get : PySem.W.nsIn K c_ACTIONS "get" = some (some (.ref f_do_get)))
    {t_CONSTRAINT : Tok} (a_CONSTRAINT : PySem.W.nsIn K mainGlobals "CONSTRAINT" = some (some (.int (0) t_CONSTRAINT)))
    {t_DEPTH_LIMIT : Tok} (a_DEPTH_LIMIT : PySem.W.nsIn K mainGlobals "DEPTH_LIMIT" = some (some (.int (10) t_DEPTH_LIMIT)))
    {t_END : Tok} (a_END : PySem.W.nsIn K mainGlobals "END" = some (some (.int (3) t_END)))
    {c_EXHAUSTED : Addr} {o_EXHAUSTED : Obj} (a_EXHAUSTED : PySem.W.nsIn K mainGlobals "EXHAUSTED" = some (some (.ref c_EXHAUSTED))) (l_EXHAUSTED : K.lookup c_EXHAUSTED = some o_EXHAUSTED) (q_EXHAUSTED : IsTupOf o_EXHAUSTED [.str "exhausted"])
    {c_FAULT : Addr} {o_FAULT : Obj} (a_FAULT : PySem.W.nsIn K mainGlobals "FAULT" = some (some (.ref c_FAULT))) (l_FAULT : K.lookup c_FAULT = some o_FAULT) (q_FAULT : IsTupOf o_FAULT [.str "fault"])
    {t_MAX : Tok} (a_MAX : PySem.W.nsIn K mainGlobals "MAX" = some (some (.int (2147483647) t_MAX)))
    {t_MIN : Tok} (a_MIN : PySem.W.nsIn K mainGlobals "MIN" = some (some (.int (-2147483648) t_MIN)))
    {c_NORMAL : Addr} {o_NORMAL : Obj} (a_NORMAL : PySem.W.nsIn K mainGlobals "NORMAL" = some (some (.ref c_NORMAL))) (l_NORMAL : K.lookup c_NORMAL = some o_NORMAL) (q_NORMAL : IsTupOf o_NORMAL [.str "normal"])
    {c_SIGNS : Addr} {es_SIGNS : Array DictEntry} {n_SIGNS : Nat} (a_SIGNS : PySem.W.nsIn K mainGlobals "SIGNS" = some (some (.ref c_SIGNS))) (l_SIGNS : K.lookup c_SIGNS = some ⟨.type "dict", none, .dict es_SIGNS n_SIGNS, #[]⟩) (lit_SIGNS : PySem.W.KeysLit w.params es_SIGNS.toList)
    {t_SIGNS_add : Tok} (v_SIGNS_add : PySem.W.nsIn K c_SIGNS "add" = some (some (.str "+" t_SIGNS_add)))
    {t_SIGNS_sub : Tok} (v_SIGNS_sub : PySem.W.nsIn K c_SIGNS "sub" = some (some (.str "-" t_SIGNS_sub)))
    {t_SIGNS_mul : Tok} (v_SIGNS_mul : PySem.W.nsIn K c_SIGNS "mul" = some (some (.str "*" t_SIGNS_mul)))
    {t_SIGNS_div : Tok} (v_SIGNS_div : PySem.W.nsIn K c_SIGNS "div" = some (some (.str "/" t_SIGNS_div)))
    {t_SIGNS_mod : Tok} (v_SIGNS_mod : PySem.W.nsIn K c_SIGNS "mod" = some (some (.str "mod" t_SIGNS_mod)))
    {t_SIGNS_rem : Tok} (v_SIGNS_rem : PySem.W.nsIn K c_SIGNS "rem" = some (some (.str "rem" t_SIGNS_rem)))
    {t_SIGNS_less : Tok} (v_SIGNS_less : PySem.W.nsIn K c_SIGNS "less" = some (some (.str "<" t_SIGNS_less)))
    {t_SIGNS_equal : Tok} (v_SIGNS_equal : PySem.W.nsIn K c_SIGNS "equal" = some (some (.str "=" t_SIGNS_equal)))
    {t_STORAGE : Tok} (a_STORAGE : PySem.W.nsIn K mainGlobals "STORAGE" = some (some (.int (2) t_STORAGE)))
    (z_abs : PySem.W.nsIn K mainGlobals "abs" = some none)
    (z_bool : PySem.W.nsIn K mainGlobals "bool" = some none)
    (z_int : PySem.W.nsIn K mainGlobals "int" = some none)
    (z_isinstance : PySem.W.nsIn K mainGlobals "isinstance" = some none)
    (z_len : PySem.W.nsIn K mainGlobals "len" = some none)
    (z_list : PySem.W.nsIn K mainGlobals "list" = some none)
    (z_max : PySem.W.nsIn K mainGlobals "max" = some none)
    (z_min : PySem.W.nsIn K mainGlobals "min" = some none)
    (z_property : PySem.W.nsIn K mainGlobals "property" = some none)
    (z_range : PySem.W.nsIn K mainGlobals "range" = some none)
    (z_str : PySem.W.nsIn K mainGlobals "str" = some none)
    (z_tuple : PySem.W.nsIn K mainGlobals "tuple" = some none)
    (z_zip : PySem.W.nsIn K mainGlobals "zip" = some none) :
    ∃ fd : FuncData, (∀ (s : Shared) (v : Value), BindsTo s fd ⟨[v], []⟩ [("script", v)]) ∧ ∀ base : Heap, K.In base → base.Ns mainGlobals mg → FnOk l.prog w K mg base CX0 24 fa fd ["script"] (spLaw K) := by
  have e := hfa.symm.trans (PySem.W.mg_of X G a_law)
  cases e
  let a : Ad := { f_wall := f_wall, d_wall := PySem.W.fnOf "_wall" "_wall" (defArgs s_wall) (defBody s_wall) (defScope s_wall) .none kV_wall dc_wall pm_wall an_wall cd_wall ct_wall, f_fits := f_fits, d_fits := PySem.W.fnOf "fits" "fits" (defArgs s_fits) (defBody s_fits) (defScope s_fits) .none kV_fits dc_fits pm_fits an_fits cd_fits ct_fits, f_arithmetic := f_arithmetic, d_arithmetic := PySem.W.fnOf "arithmetic" "arithmetic" (defArgs s_arithmetic) (defBody s_arithmetic) (defScope s_arithmetic) .none kV_arithmetic dc_arithmetic pm_arithmetic an_arithmetic cd_arithmetic ct_arithmetic, f_negate := f_negate, d_negate := PySem.W.fnOf "negate" "negate" (defArgs s_negate) (defBody s_negate) (defScope s_negate) .none kV_negate dc_negate pm_negate an_negate cd_negate ct_negate, f_absolute := f_absolute, d_absolute := PySem.W.fnOf "absolute" "absolute" (defArgs s_absolute) (defBody s_absolute) (defScope s_absolute) .none kV_absolute dc_absolute pm_absolute an_absolute cd_absolute ct_absolute, f_compare := f_compare, d_compare := PySem.W.fnOf "compare" "compare" (defArgs s_compare) (defBody s_compare) (defScope s_compare) .none kV_compare dc_compare pm_compare an_compare cd_compare ct_compare, f_word := f_word, d_word := PySem.W.fnOf "_word" "_word" (defArgs s_word) (defBody s_word) (defScope s_word) .none kV_word dc_word pm_word an_word cd_word ct_word, f_result := f_result, d_result := PySem.W.fnOf "_result" "_result" (defArgs s_result) (defBody s_result) (defScope s_result) .none kV_result dc_result pm_result an_result cd_result ct_result, f_quotient := f_quotient, d_quotient := PySem.W.fnOf "_quotient" "_quotient" (defArgs s_quotient) (defBody s_quotient) (defScope s_quotient) .none kV_quotient dc_quotient pm_quotient an_quotient cd_quotient ct_quotient, f_compute := f_compute, d_compute := PySem.W.fnOf "compute" "compute" (defArgs s_compute) (defBody s_compute) (defScope s_compute) .none kV_compute dc_compute pm_compute an_compute cd_compute ct_compute, f_Unit___init__ := f_Unit___init__, d_Unit___init__ := PySem.W.fnOf "__init__" "Unit.__init__" (defArgs s_Unit___init__) (defBody s_Unit___init__) (defScope s_Unit___init__) .none kV_Unit___init__ dc_Unit___init__ pm_Unit___init__ an_Unit___init__ cd_Unit___init__ ct_Unit___init__, f_Module___init__ := f_Module___init__, d_Module___init__ := PySem.W.fnOf "__init__" "Module.__init__" (defArgs s_Module___init__) (defBody s_Module___init__) (defScope s_Module___init__) .none kV_Module___init__ dc_Module___init__ pm_Module___init__ an_Module___init__ cd_Module___init__ ct_Module___init__, f_region_of := f_region_of, d_region_of := PySem.W.fnOf "region_of" "region_of" (defArgs s_region_of) (defBody s_region_of) (defScope s_region_of) .none kV_region_of dc_region_of pm_region_of an_region_of cd_region_of ct_region_of, f_Events___init__ := f_Events___init__, d_Events___init__ := PySem.W.fnOf "__init__" "Events.__init__" (defArgs s_Events___init__) (defBody s_Events___init__) (defScope s_Events___init__) .none kV_Events___init__ dc_Events___init__ pm_Events___init__ an_Events___init__ cd_Events___init__ ct_Events___init__, f_Events_put := f_Events_put, d_Events_put := PySem.W.fnOf "put" "Events.put" (defArgs s_Events_put) (defBody s_Events_put) (defScope s_Events_put) .none kV_Events_put dc_Events_put pm_Events_put an_Events_put cd_Events_put ct_Events_put, f_Events_get := f_Events_get, d_Events_get := PySem.W.fnOf "get" "Events.get" (defArgs s_Events_get) (defBody s_Events_get) (defScope s_Events_get) .none kV_Events_get dc_Events_get pm_Events_get an_Events_get cd_Events_get ct_Events_get, p_Events_rows := p_Events_rows, f_Events_rows := f_Events_rows, d_Events_rows := PySem.W.fnOf "rows" "Events.rows" (defArgs s_Events_rows) (defBody s_Events_rows) (defScope s_Events_rows) .none kV_Events_rows dc_Events_rows pm_Events_rows an_Events_rows cd_Events_rows ct_Events_rows, f_Fuel___init__ := f_Fuel___init__, d_Fuel___init__ := PySem.W.fnOf "__init__" "Fuel.__init__" (defArgs s_Fuel___init__) (defBody s_Fuel___init__) (defScope s_Fuel___init__) .none kV_Fuel___init__ dc_Fuel___init__ pm_Fuel___init__ an_Fuel___init__ cd_Fuel___init__ ct_Fuel___init__, f_Fuel_tick := f_Fuel_tick, d_Fuel_tick := PySem.W.fnOf "tick" "Fuel.tick" (defArgs s_Fuel_tick) (defBody s_Fuel_tick) (defScope s_Fuel_tick) .none kV_Fuel_tick dc_Fuel_tick pm_Fuel_tick an_Fuel_tick cd_Fuel_tick ct_Fuel_tick, p_Fuel_remaining := p_Fuel_remaining, f_Fuel_remaining := f_Fuel_remaining, d_Fuel_remaining := PySem.W.fnOf "remaining" "Fuel.remaining" (defArgs s_Fuel_remaining) (defBody s_Fuel_remaining) (defScope s_Fuel_remaining) .none kV_Fuel_remaining dc_Fuel_remaining pm_Fuel_remaining an_Fuel_remaining cd_Fuel_remaining ct_Fuel_remaining, f_Layout___init__ := f_Layout___init__, d_Layout___init__ := PySem.W.fnOf "__init__" "Layout.__init__" (defArgs s_Layout___init__) (defBody s_Layout___init__) (defScope s_Layout___init__) .none kV_Layout___init__ dc_Layout___init__ pm_Layout___init__ an_Layout___init__ cd_Layout___init__ ct_Layout___init__, f_plain_layout := f_plain_layout, d_plain_layout := PySem.W.fnOf "plain_layout" "plain_layout" (defArgs s_plain_layout) (defBody s_plain_layout) (defScope s_plain_layout) .none kV_plain_layout dc_plain_layout pm_plain_layout an_plain_layout cd_plain_layout ct_plain_layout, f_Activation___init__ := f_Activation___init__, d_Activation___init__ := PySem.W.fnOf "__init__" "Activation.__init__" (defArgs s_Activation___init__) (defBody s_Activation___init__) (defScope s_Activation___init__) .none kV_Activation___init__ dc_Activation___init__ pm_Activation___init__ an_Activation___init__ cd_Activation___init__ ct_Activation___init__, f_Activation_value := f_Activation_value, d_Activation_value := PySem.W.fnOf "value" "Activation.value" (defArgs s_Activation_value) (defBody s_Activation_value) (defScope s_Activation_value) .none kV_Activation_value dc_Activation_value pm_Activation_value an_Activation_value cd_Activation_value ct_Activation_value, f_Activation_write := f_Activation_write, d_Activation_write := PySem.W.fnOf "write" "Activation.write" (defArgs s_Activation_write) (defBody s_Activation_write) (defScope s_Activation_write) .none kV_Activation_write dc_Activation_write pm_Activation_write an_Activation_write cd_Activation_write ct_Activation_write, f_Activation_outward := f_Activation_outward, d_Activation_outward := PySem.W.fnOf "outward" "Activation.outward" (defArgs s_Activation_outward) (defBody s_Activation_outward) (defScope s_Activation_outward) .none kV_Activation_outward dc_Activation_outward pm_Activation_outward an_Activation_outward cd_Activation_outward ct_Activation_outward, f_Machine___init__ := f_Machine___init__, d_Machine___init__ := PySem.W.fnOf "__init__" "Machine.__init__" (defArgs s_Machine___init__) (defBody s_Machine___init__) (defScope s_Machine___init__) .none kV_Machine___init__ dc_Machine___init__ pm_Machine___init__ an_Machine___init__ cd_Machine___init__ ct_Machine___init__, f_Machine_activate := f_Machine_activate, d_Machine_activate := PySem.W.fnOf "activate" "Machine.activate" (defArgs s_Machine_activate) (defBody s_Machine_activate) (defScope s_Machine_activate) .none kV_Machine_activate dc_Machine_activate pm_Machine_activate an_Machine_activate cd_Machine_activate ct_Machine_activate, f_Machine_step := f_Machine_step, d_Machine_step := PySem.W.fnOf "step" "Machine.step" (defArgs s_Machine_step) (defBody s_Machine_step) (defScope s_Machine_step) .none kV_Machine_step dc_Machine_step pm_Machine_step an_Machine_step cd_Machine_step ct_Machine_step, f_Machine_finish := f_Machine_finish, d_Machine_finish := PySem.W.fnOf "finish" "Machine.finish" (defArgs s_Machine_finish) (defBody s_Machine_finish) (defScope s_Machine_finish) .none kV_Machine_finish dc_Machine_finish pm_Machine_finish an_Machine_finish cd_Machine_finish ct_Machine_finish, f_Machine_raise_exception := f_Machine_raise_exception, d_Machine_raise_exception := PySem.W.fnOf "raise_exception" "Machine.raise_exception" (defArgs s_Machine_raise_exception) (defBody s_Machine_raise_exception) (defScope s_Machine_raise_exception) .none kV_Machine_raise_exception dc_Machine_raise_exception pm_Machine_raise_exception an_Machine_raise_exception cd_Machine_raise_exception ct_Machine_raise_exception, f_do_tick := f_do_tick, d_do_tick := PySem.W.fnOf "_do_tick" "_do_tick" (defArgs s_do_tick) (defBody s_do_tick) (defScope s_do_tick) .none kV_do_tick dc_do_tick pm_do_tick an_do_tick cd_do_tick ct_do_tick, f_do_move := f_do_move, d_do_move := PySem.W.fnOf "_do_move" "_do_move" (defArgs s_do_move) (defBody s_do_move) (defScope s_do_move) .none kV_do_move dc_do_move pm_do_move an_do_move cd_do_move ct_do_move, f_do_sign := f_do_sign, d_do_sign := PySem.W.fnOf "_do_sign" "_do_sign" (defArgs s_do_sign) (defBody s_do_sign) (defScope s_do_sign) .none kV_do_sign dc_do_sign pm_do_sign an_do_sign cd_do_sign ct_do_sign, f_do_arithmetic := f_do_arithmetic, d_do_arithmetic := PySem.W.fnOf "_do_arithmetic" "_do_arithmetic" (defArgs s_do_arithmetic) (defBody s_do_arithmetic) (defScope s_do_arithmetic) .none kV_do_arithmetic dc_do_arithmetic pm_do_arithmetic an_do_arithmetic cd_do_arithmetic ct_do_arithmetic, f_do_compare := f_do_compare, d_do_compare := PySem.W.fnOf "_do_compare" "_do_compare" (defArgs s_do_compare) (defBody s_do_compare) (defScope s_do_compare) .none kV_do_compare dc_do_compare pm_do_compare an_do_compare cd_do_compare ct_do_compare, f_do_check := f_do_check, d_do_check := PySem.W.fnOf "_do_check" "_do_check" (defArgs s_do_check) (defBody s_do_check) (defScope s_do_check) .none kV_do_check dc_do_check pm_do_check an_do_check cd_do_check ct_do_check, f_do_load := f_do_load, d_do_load := PySem.W.fnOf "_do_load" "_do_load" (defArgs s_do_load) (defBody s_do_load) (defScope s_do_load) .none kV_do_load dc_do_load pm_do_load an_do_load cd_do_load ct_do_load, f_do_store := f_do_store, d_do_store := PySem.W.fnOf "_do_store" "_do_store" (defArgs s_do_store) (defBody s_do_store) (defScope s_do_store) .none kV_do_store dc_do_store pm_do_store an_do_store cd_do_store ct_do_store, f_do_jump := f_do_jump, d_do_jump := PySem.W.fnOf "_do_jump" "_do_jump" (defArgs s_do_jump) (defBody s_do_jump) (defScope s_do_jump) .none kV_do_jump dc_do_jump pm_do_jump an_do_jump cd_do_jump ct_do_jump, f_do_branch := f_do_branch, d_do_branch := PySem.W.fnOf "_do_branch" "_do_branch" (defArgs s_do_branch) (defBody s_do_branch) (defScope s_do_branch) .none kV_do_branch dc_do_branch pm_do_branch an_do_branch cd_do_branch ct_do_branch, f_do_call := f_do_call, d_do_call := PySem.W.fnOf "_do_call" "_do_call" (defArgs s_do_call) (defBody s_do_call) (defScope s_do_call) .none kV_do_call dc_do_call pm_do_call an_do_call cd_do_call ct_do_call, f_do_return := f_do_return, d_do_return := PySem.W.fnOf "_do_return" "_do_return" (defArgs s_do_return) (defBody s_do_return) (defScope s_do_return) .none kV_do_return dc_do_return pm_do_return an_do_return cd_do_return ct_do_return, f_do_raise := f_do_raise, d_do_raise := PySem.W.fnOf "_do_raise" "_do_raise" (defArgs s_do_raise) (defBody s_do_raise) (defScope s_do_raise) .none kV_do_raise dc_do_raise pm_do_raise an_do_raise cd_do_raise ct_do_raise, f_do_again := f_do_again, d_do_again := PySem.W.fnOf "_do_again" "_do_again" (defArgs s_do_again) (defBody s_do_again) (defScope s_do_again) .none kV_do_again dc_do_again pm_do_again an_do_again cd_do_again ct_do_again, f_do_put := f_do_put, d_do_put := PySem.W.fnOf "_do_put" "_do_put" (defArgs s_do_put) (defBody s_do_put) (defScope s_do_put) .none kV_do_put dc_do_put pm_do_put an_do_put cd_do_put ct_do_put, f_do_get := f_do_get, d_do_get := PySem.W.fnOf "_do_get" "_do_get" (defArgs s_do_get) (defBody s_do_get) (defScope s_do_get) .none kV_do_get dc_do_get pm_do_get an_do_get cd_do_get ct_do_get, f_run_module := f_run_module, d_run_module := PySem.W.fnOf "run_module" "run_module" (defArgs s_run_module) (defBody s_run_module) (defScope s_run_module) .none kV_run_module dc_run_module pm_run_module an_run_module cd_run_module ct_run_module, f_law_start := f_law_start, d_law_start := PySem.W.fnOf "_law_start" "_law_start" (defArgs s_law_start) (defBody s_law_start) (defScope s_law_start) .none kV_law_start dc_law_start pm_law_start an_law_start cd_law_start ct_law_start, f_law_take := f_law_take, d_law_take := PySem.W.fnOf "_law_take" "_law_take" (defArgs s_law_take) (defBody s_law_take) (defScope s_law_take) .none kV_law_take dc_law_take pm_law_take an_law_take cd_law_take ct_law_take, f_law_place := f_law_place, d_law_place := PySem.W.fnOf "_law_place" "_law_place" (defArgs s_law_place) (defBody s_law_place) (defScope s_law_place) .none kV_law_place dc_law_place pm_law_place an_law_place cd_law_place ct_law_place, f_law_region := f_law_region, d_law_region := PySem.W.fnOf "_law_region" "_law_region" (defArgs s_law_region) (defBody s_law_region) (defScope s_law_region) .none kV_law_region dc_law_region pm_law_region an_law_region cd_law_region ct_law_region, f_law_shape := f_law_shape, d_law_shape := PySem.W.fnOf "_law_shape" "_law_shape" (defArgs s_law_shape) (defBody s_law_shape) (defScope s_law_shape) .none kV_law_shape dc_law_shape pm_law_shape an_law_shape cd_law_shape ct_law_shape, f_law_raising := f_law_raising, d_law_raising := PySem.W.fnOf "_law_raising" "_law_raising" (defArgs s_law_raising) (defBody s_law_raising) (defScope s_law_raising) .none kV_law_raising dc_law_raising pm_law_raising an_law_raising cd_law_raising ct_law_raising, f_law_unit := f_law_unit, d_law_unit := PySem.W.fnOf "_law_unit" "_law_unit" (defArgs s_law_unit) (defBody s_law_unit) (defScope s_law_unit) .none kV_law_unit dc_law_unit pm_law_unit an_law_unit cd_law_unit ct_law_unit, f_law_taken := f_law_taken, d_law_taken := PySem.W.fnOf "_law_taken" "_law_taken" (defArgs s_law_taken) (defBody s_law_taken) (defScope s_law_taken) .none kV_law_taken dc_law_taken pm_law_taken an_law_taken cd_law_taken ct_law_taken, f_law_rows := f_law_rows, d_law_rows := PySem.W.fnOf "_law_rows" "_law_rows" (defArgs s_law_rows) (defBody s_law_rows) (defScope s_law_rows) .none kV_law_rows dc_law_rows pm_law_rows an_law_rows cd_law_rows ct_law_rows, f_law_walk := f_law_walk, d_law_walk := PySem.W.fnOf "_law_walk" "_law_walk" (defArgs s_law_walk) (defBody s_law_walk) (defScope s_law_walk) .none kV_law_walk dc_law_walk pm_law_walk an_law_walk cd_law_walk ct_law_walk, f_law_alike := f_law_alike, d_law_alike := PySem.W.fnOf "_law_alike" "_law_alike" (defArgs s_law_alike) (defBody s_law_alike) (defScope s_law_alike) .none kV_law_alike dc_law_alike pm_law_alike an_law_alike cd_law_alike ct_law_alike, f_law := fa, d_law := PySem.W.fnOf "law" "law" (defArgs s_law) (defBody s_law) (defScope s_law) .none kV_law dc_law pm_law an_law cd_law ct_law, c_ACTIONS := c_ACTIONS, t_CONSTRAINT := t_CONSTRAINT, t_DEPTH_LIMIT := t_DEPTH_LIMIT, t_END := t_END, c_EXHAUSTED := c_EXHAUSTED, c_FAULT := c_FAULT, t_MAX := t_MAX, t_MIN := t_MIN, c_NORMAL := c_NORMAL, c_SIGNS := c_SIGNS, t_STORAGE := t_STORAGE, C_Unit := C_Unit, C_Module := C_Module, C_AdaError := C_AdaError, C_Overflow := C_Overflow, C_DivisionByZero := C_DivisionByZero, C_NoInput := C_NoInput, C_OutOfFuel := C_OutOfFuel, C_Events := C_Events, C_Fuel := C_Fuel, C_Layout := C_Layout, C_Activation := C_Activation, C_Machine := C_Machine }
  have T : Txt w K mg a := {
    g__wall := PySem.W.mg_of X G a_wall,
    F__wall := fun_mk (st := s_wall) l_wall c_wall k_wall,
    k__wall := k_wall,
    bd__wall := (fun_mk (st := s_wall) l_wall c_wall k_wall).binds (ps := ["k"]) fun _ _ _ _ _ _ us hl => match us, hl with | [_], _ => rfl,
    g_fits := PySem.W.mg_of X G a_fits,
    F_fits := fun_mk (st := s_fits) l_fits c_fits k_fits,
    k_fits := k_fits,
    bd_fits := (fun_mk (st := s_fits) l_fits c_fits k_fits).binds (ps := ["number"]) fun _ _ _ _ _ _ us hl => match us, hl with | [_], _ => rfl,
    g_arithmetic := PySem.W.mg_of X G a_arithmetic,
    F_arithmetic := fun_mk (st := s_arithmetic) l_arithmetic c_arithmetic k_arithmetic,
    k_arithmetic := k_arithmetic,
    bd_arithmetic := (fun_mk (st := s_arithmetic) l_arithmetic c_arithmetic k_arithmetic).binds (ps := ["op", "left", "right"]) fun _ _ _ _ _ _ us hl => match us, hl with | [_, _, _], _ => rfl,
    g_negate := PySem.W.mg_of X G a_negate,
    F_negate := fun_mk (st := s_negate) l_negate c_negate k_negate,
    k_negate := k_negate,
    bd_negate := (fun_mk (st := s_negate) l_negate c_negate k_negate).binds (ps := ["word"]) fun _ _ _ _ _ _ us hl => match us, hl with | [_], _ => rfl,
    g_absolute := PySem.W.mg_of X G a_absolute,
    F_absolute := fun_mk (st := s_absolute) l_absolute c_absolute k_absolute,
    k_absolute := k_absolute,
    bd_absolute := (fun_mk (st := s_absolute) l_absolute c_absolute k_absolute).binds (ps := ["word"]) fun _ _ _ _ _ _ us hl => match us, hl with | [_], _ => rfl,
    g_compare := PySem.W.mg_of X G a_compare,
    F_compare := fun_mk (st := s_compare) l_compare c_compare k_compare,
    k_compare := k_compare,
    bd_compare := (fun_mk (st := s_compare) l_compare c_compare k_compare).binds (ps := ["op", "left", "right"]) fun _ _ _ _ _ _ us hl => match us, hl with | [_, _, _], _ => rfl,
    g__word := PySem.W.mg_of X G a_word,
    F__word := fun_mk (st := s_word) l_word c_word k_word,
    k__word := k_word,
    bd__word := (fun_mk (st := s_word) l_word c_word k_word).binds (ps := ["number"]) fun _ _ _ _ _ _ us hl => match us, hl with | [_], _ => rfl,
    g__result := PySem.W.mg_of X G a_result,
    F__result := fun_mk (st := s_result) l_result c_result k_result,
    k__result := k_result,
    bd__result := (fun_mk (st := s_result) l_result c_result k_result).binds (ps := ["op", "left", "right"]) fun _ _ _ _ _ _ us hl => match us, hl with | [_, _, _], _ => rfl,
    g__quotient := PySem.W.mg_of X G a_quotient,
    F__quotient := fun_mk (st := s_quotient) l_quotient c_quotient k_quotient,
    k__quotient := k_quotient,
    bd__quotient := (fun_mk (st := s_quotient) l_quotient c_quotient k_quotient).binds (ps := ["left", "right"]) fun _ _ _ _ _ _ us hl => match us, hl with | [_, _], _ => rfl,
    g_compute := PySem.W.mg_of X G a_compute,
    F_compute := fun_mk (st := s_compute) l_compute c_compute k_compute,
    k_compute := k_compute,
    bd_compute := (fun_mk (st := s_compute) l_compute c_compute k_compute).binds (ps := ["name", "left", "right"]) fun _ _ _ _ _ _ us hl => match us, hl with | [_, _, _], _ => rfl,
    F_Unit___init__ := fun_mk (st := s_Unit___init__) l_Unit___init__ c_Unit___init__ k_Unit___init__,
    k_Unit___init__ := k_Unit___init__,
    bd_Unit___init__ := (fun_mk (st := s_Unit___init__) l_Unit___init__ c_Unit___init__ k_Unit___init__).binds (ps := ["self", "parent", "arguments", "results", "registers", "cells", "code", "regions"]) fun _ _ _ _ _ _ us hl => match us, hl with | [_, _, _, _, _, _, _, _], _ => rfl,
    F_Module___init__ := fun_mk (st := s_Module___init__) l_Module___init__ c_Module___init__ k_Module___init__,
    k_Module___init__ := k_Module___init__,
    bd_Module___init__ := (fun_mk (st := s_Module___init__) l_Module___init__ c_Module___init__ k_Module___init__).binds (ps := ["self", "units", "names", "places"]) fun _ _ _ _ _ _ us hl => match us, hl with | [_, _, _, _], _ => rfl,
    g_region_of := PySem.W.mg_of X G a_region_of,
    F_region_of := fun_mk (st := s_region_of) l_region_of c_region_of k_region_of,
    k_region_of := k_region_of,
    bd_region_of := (fun_mk (st := s_region_of) l_region_of c_region_of k_region_of).binds (ps := ["unit", "index"]) fun _ _ _ _ _ _ us hl => match us, hl with | [_, _], _ => rfl,
    F_Events___init__ := fun_mk (st := s_Events___init__) l_Events___init__ c_Events___init__ k_Events___init__,
    k_Events___init__ := k_Events___init__,
    bd_Events___init__ := (fun_mk (st := s_Events___init__) l_Events___init__ c_Events___init__ k_Events___init__).binds (ps := ["self", "inputs"]) fun _ _ _ _ _ _ us hl => match us, hl with | [_, _], _ => rfl,
    F_Events_put := fun_mk (st := s_Events_put) l_Events_put c_Events_put k_Events_put,
    k_Events_put := k_Events_put,
    bd_Events_put := (fun_mk (st := s_Events_put) l_Events_put c_Events_put k_Events_put).binds (ps := ["self", "word"]) fun _ _ _ _ _ _ us hl => match us, hl with | [_, _], _ => rfl,
    F_Events_get := fun_mk (st := s_Events_get) l_Events_get c_Events_get k_Events_get,
    k_Events_get := k_Events_get,
    bd_Events_get := (fun_mk (st := s_Events_get) l_Events_get c_Events_get k_Events_get).binds (ps := ["self"]) fun _ _ _ _ _ _ us hl => match us, hl with | [_], _ => rfl,
    pr_Events_rows := ⟨a_Events_rows, g_Events_rows, t_Events_rows, _, r_Events_rows⟩,
    F_Events_rows := fun_mk (st := s_Events_rows) l_Events_rows c_Events_rows k_Events_rows,
    k_Events_rows := k_Events_rows,
    bd_Events_rows := (fun_mk (st := s_Events_rows) l_Events_rows c_Events_rows k_Events_rows).binds (ps := ["self"]) fun _ _ _ _ _ _ us hl => match us, hl with | [_], _ => rfl,
    F_Fuel___init__ := fun_mk (st := s_Fuel___init__) l_Fuel___init__ c_Fuel___init__ k_Fuel___init__,
    k_Fuel___init__ := k_Fuel___init__,
    bd_Fuel___init__ := (fun_mk (st := s_Fuel___init__) l_Fuel___init__ c_Fuel___init__ k_Fuel___init__).binds (ps := ["self", "units"]) fun _ _ _ _ _ _ us hl => match us, hl with | [_, _], _ => rfl,
    F_Fuel_tick := fun_mk (st := s_Fuel_tick) l_Fuel_tick c_Fuel_tick k_Fuel_tick,
    k_Fuel_tick := k_Fuel_tick,
    bd_Fuel_tick := (fun_mk (st := s_Fuel_tick) l_Fuel_tick c_Fuel_tick k_Fuel_tick).binds (ps := ["self"]) fun _ _ _ _ _ _ us hl => match us, hl with | [_], _ => rfl,
    pr_Fuel_remaining := ⟨a_Fuel_remaining, g_Fuel_remaining, t_Fuel_remaining, _, r_Fuel_remaining⟩,
    F_Fuel_remaining := fun_mk (st := s_Fuel_remaining) l_Fuel_remaining c_Fuel_remaining k_Fuel_remaining,
    k_Fuel_remaining := k_Fuel_remaining,
    bd_Fuel_remaining := (fun_mk (st := s_Fuel_remaining) l_Fuel_remaining c_Fuel_remaining k_Fuel_remaining).binds (ps := ["self"]) fun _ _ _ _ _ _ us hl => match us, hl with | [_], _ => rfl,
    F_Layout___init__ := fun_mk (st := s_Layout___init__) l_Layout___init__ c_Layout___init__ k_Layout___init__,
    k_Layout___init__ := k_Layout___init__,
    bd_Layout___init__ := (fun_mk (st := s_Layout___init__) l_Layout___init__ c_Layout___init__ k_Layout___init__).binds (ps := ["self", "where", "initial", "entrances", "cleared"]) fun _ _ _ _ _ _ us hl => match us, hl with | [_, _, _, _, _], _ => rfl,
    g_plain_layout := PySem.W.mg_of X G a_plain_layout,
    F_plain_layout := fun_mk (st := s_plain_layout) l_plain_layout c_plain_layout k_plain_layout,
    k_plain_layout := k_plain_layout,
    bd_plain_layout := (fun_mk (st := s_plain_layout) l_plain_layout c_plain_layout k_plain_layout).binds (ps := ["unit"]) fun _ _ _ _ _ _ us hl => match us, hl with | [_], _ => rfl,
    F_Activation___init__ := fun_mk (st := s_Activation___init__) l_Activation___init__ c_Activation___init__ k_Activation___init__,
    k_Activation___init__ := k_Activation___init__,
    bd_Activation___init__ := (fun_mk (st := s_Activation___init__) l_Activation___init__ c_Activation___init__ k_Activation___init__).binds (ps := ["self", "number", "unit", "layout", "link", "caller"]) fun _ _ _ _ _ _ us hl => match us, hl with | [_, _, _, _, _, _], _ => rfl,
    F_Activation_value := fun_mk (st := s_Activation_value) l_Activation_value c_Activation_value k_Activation_value,
    k_Activation_value := k_Activation_value,
    bd_Activation_value := (fun_mk (st := s_Activation_value) l_Activation_value c_Activation_value k_Activation_value).binds (ps := ["self", "operand"]) fun _ _ _ _ _ _ us hl => match us, hl with | [_, _], _ => rfl,
    F_Activation_write := fun_mk (st := s_Activation_write) l_Activation_write c_Activation_write k_Activation_write,
    k_Activation_write := k_Activation_write,
    bd_Activation_write := (fun_mk (st := s_Activation_write) l_Activation_write c_Activation_write k_Activation_write).binds (ps := ["self", "number", "word"]) fun _ _ _ _ _ _ us hl => match us, hl with | [_, _, _], _ => rfl,
    F_Activation_outward := fun_mk (st := s_Activation_outward) l_Activation_outward c_Activation_outward k_Activation_outward,
    k_Activation_outward := k_Activation_outward,
    bd_Activation_outward := (fun_mk (st := s_Activation_outward) l_Activation_outward c_Activation_outward k_Activation_outward).binds (ps := ["self", "hops"]) fun _ _ _ _ _ _ us hl => match us, hl with | [_, _], _ => rfl,
    F_Machine___init__ := fun_mk (st := s_Machine___init__) l_Machine___init__ c_Machine___init__ k_Machine___init__,
    k_Machine___init__ := k_Machine___init__,
    bd_Machine___init__ := (fun_mk (st := s_Machine___init__) l_Machine___init__ c_Machine___init__ k_Machine___init__).binds (ps := ["self", "module", "layouts", "inputs", "fuel"]) fun _ _ _ _ _ _ us hl => match us, hl with | [_, _, _, _, _], _ => rfl,
    F_Machine_activate := fun_mk (st := s_Machine_activate) l_Machine_activate c_Machine_activate k_Machine_activate,
    k_Machine_activate := k_Machine_activate,
    bd_Machine_activate := (fun_mk (st := s_Machine_activate) l_Machine_activate c_Machine_activate k_Machine_activate).binds (ps := ["self", "number", "link", "arguments"]) fun _ _ _ _ _ _ us hl => match us, hl with | [_, _, _, _], _ => rfl,
    F_Machine_step := fun_mk (st := s_Machine_step) l_Machine_step c_Machine_step k_Machine_step,
    k_Machine_step := k_Machine_step,
    bd_Machine_step := (fun_mk (st := s_Machine_step) l_Machine_step c_Machine_step k_Machine_step).binds (ps := ["self"]) fun _ _ _ _ _ _ us hl => match us, hl with | [_], _ => rfl,
    F_Machine_finish := fun_mk (st := s_Machine_finish) l_Machine_finish c_Machine_finish k_Machine_finish,
    k_Machine_finish := k_Machine_finish,
    bd_Machine_finish := (fun_mk (st := s_Machine_finish) l_Machine_finish c_Machine_finish k_Machine_finish).binds (ps := ["self"]) fun _ _ _ _ _ _ us hl => match us, hl with | [_], _ => rfl,
    F_Machine_raise_exception := fun_mk (st := s_Machine_raise_exception) l_Machine_raise_exception c_Machine_raise_exception k_Machine_raise_exception,
    k_Machine_raise_exception := k_Machine_raise_exception,
    bd_Machine_raise_exception := (fun_mk (st := s_Machine_raise_exception) l_Machine_raise_exception c_Machine_raise_exception k_Machine_raise_exception).binds (ps := ["self", "number", "place"]) fun _ _ _ _ _ _ us hl => match us, hl with | [_, _, _], _ => rfl,
    g__do_tick := PySem.W.mg_of X G a_do_tick,
    F__do_tick := fun_mk (st := s_do_tick) l_do_tick c_do_tick k_do_tick,
    k__do_tick := k_do_tick,
    bd__do_tick := (fun_mk (st := s_do_tick) l_do_tick c_do_tick k_do_tick).binds (ps := ["machine", "_activation", "_instruction"]) fun _ _ _ _ _ _ us hl => match us, hl with | [_, _, _], _ => rfl,
    g__do_move := PySem.W.mg_of X G a_do_move,
    F__do_move := fun_mk (st := s_do_move) l_do_move c_do_move k_do_move,
    k__do_move := k_do_move,
    bd__do_move := (fun_mk (st := s_do_move) l_do_move c_do_move k_do_move).binds (ps := ["_machine", "activation", "instruction"]) fun _ _ _ _ _ _ us hl => match us, hl with | [_, _, _], _ => rfl,
    g__do_sign := PySem.W.mg_of X G a_do_sign,
    F__do_sign := fun_mk (st := s_do_sign) l_do_sign c_do_sign k_do_sign,
    k__do_sign := k_do_sign,
    bd__do_sign := (fun_mk (st := s_do_sign) l_do_sign c_do_sign k_do_sign).binds (ps := ["machine", "activation", "instruction"]) fun _ _ _ _ _ _ us hl => match us, hl with | [_, _, _], _ => rfl,
    g__do_arithmetic := PySem.W.mg_of X G a_do_arithmetic,
    F__do_arithmetic := fun_mk (st := s_do_arithmetic) l_do_arithmetic c_do_arithmetic k_do_arithmetic,
    k__do_arithmetic := k_do_arithmetic,
    bd__do_arithmetic := (fun_mk (st := s_do_arithmetic) l_do_arithmetic c_do_arithmetic k_do_arithmetic).binds (ps := ["machine", "activation", "instruction"]) fun _ _ _ _ _ _ us hl => match us, hl with | [_, _, _], _ => rfl,
    g__do_compare := PySem.W.mg_of X G a_do_compare,
    F__do_compare := fun_mk (st := s_do_compare) l_do_compare c_do_compare k_do_compare,
    k__do_compare := k_do_compare,
    bd__do_compare := (fun_mk (st := s_do_compare) l_do_compare c_do_compare k_do_compare).binds (ps := ["_machine", "activation", "instruction"]) fun _ _ _ _ _ _ us hl => match us, hl with | [_, _, _], _ => rfl,
    g__do_check := PySem.W.mg_of X G a_do_check,
    F__do_check := fun_mk (st := s_do_check) l_do_check c_do_check k_do_check,
    k__do_check := k_do_check,
    bd__do_check := (fun_mk (st := s_do_check) l_do_check c_do_check k_do_check).binds (ps := ["machine", "activation", "instruction"]) fun _ _ _ _ _ _ us hl => match us, hl with | [_, _, _], _ => rfl,
    g__do_load := PySem.W.mg_of X G a_do_load,
    F__do_load := fun_mk (st := s_do_load) l_do_load c_do_load k_do_load,
    k__do_load := k_do_load,
    bd__do_load := (fun_mk (st := s_do_load) l_do_load c_do_load k_do_load).binds (ps := ["machine", "activation", "instruction"]) fun _ _ _ _ _ _ us hl => match us, hl with | [_, _, _], _ => rfl,
    g__do_store := PySem.W.mg_of X G a_do_store,
    F__do_store := fun_mk (st := s_do_store) l_do_store c_do_store k_do_store,
    k__do_store := k_do_store,
    bd__do_store := (fun_mk (st := s_do_store) l_do_store c_do_store k_do_store).binds (ps := ["machine", "activation", "instruction"]) fun _ _ _ _ _ _ us hl => match us, hl with | [_, _, _], _ => rfl,
    g__do_jump := PySem.W.mg_of X G a_do_jump,
    F__do_jump := fun_mk (st := s_do_jump) l_do_jump c_do_jump k_do_jump,
    k__do_jump := k_do_jump,
    bd__do_jump := (fun_mk (st := s_do_jump) l_do_jump c_do_jump k_do_jump).binds (ps := ["_machine", "activation", "instruction"]) fun _ _ _ _ _ _ us hl => match us, hl with | [_, _, _], _ => rfl,
    g__do_branch := PySem.W.mg_of X G a_do_branch,
    F__do_branch := fun_mk (st := s_do_branch) l_do_branch c_do_branch k_do_branch,
    k__do_branch := k_do_branch,
    bd__do_branch := (fun_mk (st := s_do_branch) l_do_branch c_do_branch k_do_branch).binds (ps := ["_machine", "activation", "instruction"]) fun _ _ _ _ _ _ us hl => match us, hl with | [_, _, _], _ => rfl,
    g__do_call := PySem.W.mg_of X G a_do_call,
    F__do_call := fun_mk (st := s_do_call) l_do_call c_do_call k_do_call,
    k__do_call := k_do_call,
    bd__do_call := (fun_mk (st := s_do_call) l_do_call c_do_call k_do_call).binds (ps := ["machine", "activation", "instruction"]) fun _ _ _ _ _ _ us hl => match us, hl with | [_, _, _], _ => rfl,
    g__do_return := PySem.W.mg_of X G a_do_return,
    F__do_return := fun_mk (st := s_do_return) l_do_return c_do_return k_do_return,
    k__do_return := k_do_return,
    bd__do_return := (fun_mk (st := s_do_return) l_do_return c_do_return k_do_return).binds (ps := ["machine", "activation", "instruction"]) fun _ _ _ _ _ _ us hl => match us, hl with | [_, _, _], _ => rfl,
    g__do_raise := PySem.W.mg_of X G a_do_raise,
    F__do_raise := fun_mk (st := s_do_raise) l_do_raise c_do_raise k_do_raise,
    k__do_raise := k_do_raise,
    bd__do_raise := (fun_mk (st := s_do_raise) l_do_raise c_do_raise k_do_raise).binds (ps := ["machine", "_activation", "instruction"]) fun _ _ _ _ _ _ us hl => match us, hl with | [_, _, _], _ => rfl,
    g__do_again := PySem.W.mg_of X G a_do_again,
    F__do_again := fun_mk (st := s_do_again) l_do_again c_do_again k_do_again,
    k__do_again := k_do_again,
    bd__do_again := (fun_mk (st := s_do_again) l_do_again c_do_again k_do_again).binds (ps := ["machine", "activation", "instruction"]) fun _ _ _ _ _ _ us hl => match us, hl with | [_, _, _], _ => rfl,
    g__do_put := PySem.W.mg_of X G a_do_put,
    F__do_put := fun_mk (st := s_do_put) l_do_put c_do_put k_do_put,
    k__do_put := k_do_put,
    bd__do_put := (fun_mk (st := s_do_put) l_do_put c_do_put k_do_put).binds (ps := ["machine", "activation", "instruction"]) fun _ _ _ _ _ _ us hl => match us, hl with | [_, _, _], _ => rfl,
    g__do_get := PySem.W.mg_of X G a_do_get,
    F__do_get := fun_mk (st := s_do_get) l_do_get c_do_get k_do_get,
    k__do_get := k_do_get,
    bd__do_get := (fun_mk (st := s_do_get) l_do_get c_do_get k_do_get).binds (ps := ["machine", "activation", "instruction"]) fun _ _ _ _ _ _ us hl => match us, hl with | [_, _, _], _ => rfl,
    g_run_module := PySem.W.mg_of X G a_run_module,
    F_run_module := fun_mk (st := s_run_module) l_run_module c_run_module k_run_module,
    k_run_module := k_run_module,
    kb_run_module := KB_run_module (fun_mk (st := s_run_module) l_run_module c_run_module k_run_module),
    g__law_start := PySem.W.mg_of X G a_law_start,
    F__law_start := fun_mk (st := s_law_start) l_law_start c_law_start k_law_start,
    k__law_start := k_law_start,
    bd__law_start := (fun_mk (st := s_law_start) l_law_start c_law_start k_law_start).binds (ps := ["script"]) fun _ _ _ _ _ _ us hl => match us, hl with | [_], _ => rfl,
    g__law_take := PySem.W.mg_of X G a_law_take,
    F__law_take := fun_mk (st := s_law_take) l_law_take c_law_take k_law_take,
    k__law_take := k_law_take,
    bd__law_take := (fun_mk (st := s_law_take) l_law_take c_law_take k_law_take).binds (ps := ["state", "many"]) fun _ _ _ _ _ _ us hl => match us, hl with | [_, _], _ => rfl,
    g__law_place := PySem.W.mg_of X G a_law_place,
    F__law_place := fun_mk (st := s_law_place) l_law_place c_law_place k_law_place,
    k__law_place := k_law_place,
    bd__law_place := (fun_mk (st := s_law_place) l_law_place c_law_place k_law_place).binds (ps := ["state"]) fun _ _ _ _ _ _ us hl => match us, hl with | [_], _ => rfl,
    g__law_region := PySem.W.mg_of X G a_law_region,
    F__law_region := fun_mk (st := s_law_region) l_law_region c_law_region k_law_region,
    k__law_region := k_law_region,
    bd__law_region := (fun_mk (st := s_law_region) l_law_region c_law_region k_law_region).binds (ps := ["state", "shape", "entry", "k"]) fun _ _ _ _ _ _ us hl => match us, hl with | [_, _, _, _], _ => rfl,
    g__law_shape := PySem.W.mg_of X G a_law_shape,
    F__law_shape := fun_mk (st := s_law_shape) l_law_shape c_law_shape k_law_shape,
    k__law_shape := k_law_shape,
    bd__law_shape := (fun_mk (st := s_law_shape) l_law_shape c_law_shape k_law_shape).binds (ps := ["state", "last"]) fun _ _ _ _ _ _ us hl => match us, hl with | [_, _], _ => rfl,
    g__law_raising := PySem.W.mg_of X G a_law_raising,
    F__law_raising := fun_mk (st := s_law_raising) l_law_raising c_law_raising k_law_raising,
    k__law_raising := k_law_raising,
    bd__law_raising := (fun_mk (st := s_law_raising) l_law_raising c_law_raising k_law_raising).binds (ps := ["shape", "number"]) fun _ _ _ _ _ _ us hl => match us, hl with | [_, _], _ => rfl,
    g__law_unit := PySem.W.mg_of X G a_law_unit,
    F__law_unit := fun_mk (st := s_law_unit) l_law_unit c_law_unit k_law_unit,
    k__law_unit := k_law_unit,
    bd__law_unit := (fun_mk (st := s_law_unit) l_law_unit c_law_unit k_law_unit).binds (ps := ["shape", "number"]) fun _ _ _ _ _ _ us hl => match us, hl with | [_, _], _ => rfl,
    g__law_taken := PySem.W.mg_of X G a_law_taken,
    F__law_taken := fun_mk (st := s_law_taken) l_law_taken c_law_taken k_law_taken,
    k__law_taken := k_law_taken,
    bd__law_taken := (fun_mk (st := s_law_taken) l_law_taken c_law_taken k_law_taken).binds (ps := ["shape", "index"]) fun _ _ _ _ _ _ us hl => match us, hl with | [_, _], _ => rfl,
    g__law_rows := PySem.W.mg_of X G a_law_rows,
    F__law_rows := fun_mk (st := s_law_rows) l_law_rows c_law_rows k_law_rows,
    k__law_rows := k_law_rows,
    bd__law_rows := (fun_mk (st := s_law_rows) l_law_rows c_law_rows k_law_rows).binds (ps := ["shape", "raised", "index", "events"]) fun _ _ _ _ _ _ us hl => match us, hl with | [_, _, _, _], _ => rfl,
    g__law_walk := PySem.W.mg_of X G a_law_walk,
    F__law_walk := fun_mk (st := s_law_walk) l_law_walk c_law_walk k_law_walk,
    k__law_walk := k_law_walk,
    bd__law_walk := (fun_mk (st := s_law_walk) l_law_walk c_law_walk k_law_walk).binds (ps := ["shapes", "number", "events"]) fun _ _ _ _ _ _ us hl => match us, hl with | [_, _, _], _ => rfl,
    g__law_alike := PySem.W.mg_of X G a_law_alike,
    F__law_alike := fun_mk (st := s_law_alike) l_law_alike c_law_alike k_law_alike,
    k__law_alike := k_law_alike,
    bd__law_alike := (fun_mk (st := s_law_alike) l_law_alike c_law_alike k_law_alike).binds (ps := ["answer", "due"]) fun _ _ _ _ _ _ us hl => match us, hl with | [_, _], _ => rfl,
    g_law := PySem.W.mg_of X G a_law,
    F_law := fun_mk (st := s_law) l_law c_law k_law,
    k_law := k_law,
    bd_law := (fun_mk (st := s_law) l_law c_law k_law).binds (ps := ["script"]) fun _ _ _ _ _ _ us hl => match us, hl with | [_], _ => rfl,
    g_ACTIONS := PySem.W.mg_of X G a_ACTIONS,
    kd_ACTIONS_tick := ⟨_, _, _, l_ACTIONS, lit_ACTIONS, v_ACTIONS_tick, rfl⟩,
    kd_ACTIONS_move := ⟨_, _, _, l_ACTIONS, lit_ACTIONS, v_ACTIONS_move, rfl⟩,
    kd_ACTIONS_neg := ⟨_, _, _, l_ACTIONS, lit_ACTIONS, v_ACTIONS_neg, rfl⟩,
    kd_ACTIONS_abs := ⟨_, _, _, l_ACTIONS, lit_ACTIONS, v_ACTIONS_abs, rfl⟩,
    kd_ACTIONS_add := ⟨_, _, _, l_ACTIONS, lit_ACTIONS, v_ACTIONS_add, rfl⟩,
    kd_ACTIONS_sub := ⟨_, _, _, l_ACTIONS, lit_ACTIONS, v_ACTIONS_sub, rfl⟩,
    kd_ACTIONS_mul := ⟨_, _, _, l_ACTIONS, lit_ACTIONS, v_ACTIONS_mul, rfl⟩,
    kd_ACTIONS_div := ⟨_, _, _, l_ACTIONS, lit_ACTIONS, v_ACTIONS_div, rfl⟩,
    kd_ACTIONS_mod := ⟨_, _, _, l_ACTIONS, lit_ACTIONS, v_ACTIONS_mod, rfl⟩,
    kd_ACTIONS_rem := ⟨_, _, _, l_ACTIONS, lit_ACTIONS, v_ACTIONS_rem, rfl⟩,
    kd_ACTIONS_less := ⟨_, _, _, l_ACTIONS, lit_ACTIONS, v_ACTIONS_less, rfl⟩,
    kd_ACTIONS_equal := ⟨_, _, _, l_ACTIONS, lit_ACTIONS, v_ACTIONS_equal, rfl⟩,
    kd_ACTIONS_check := ⟨_, _, _, l_ACTIONS, lit_ACTIONS, v_ACTIONS_check, rfl⟩,
    kd_ACTIONS_load := ⟨_, _, _, l_ACTIONS, lit_ACTIONS, v_ACTIONS_load, rfl⟩,
    kd_ACTIONS_store := ⟨_, _, _, l_ACTIONS, lit_ACTIONS, v_ACTIONS_store, rfl⟩,
    kd_ACTIONS_jump := ⟨_, _, _, l_ACTIONS, lit_ACTIONS, v_ACTIONS_jump, rfl⟩,
    kd_ACTIONS_branch := ⟨_, _, _, l_ACTIONS, lit_ACTIONS, v_ACTIONS_branch, rfl⟩,
    kd_ACTIONS_call := ⟨_, _, _, l_ACTIONS, lit_ACTIONS, v_ACTIONS_call, rfl⟩,
    kd_ACTIONS_return := ⟨_, _, _, l_ACTIONS, lit_ACTIONS, v_ACTIONS_return, rfl⟩,
    kd_ACTIONS_raise := ⟨_, _, _, l_ACTIONS, lit_ACTIONS, v_ACTIONS_raise, rfl⟩,
    kd_ACTIONS_again := ⟨_, _, _, l_ACTIONS, lit_ACTIONS, v_ACTIONS_again, rfl⟩,
    kd_ACTIONS_put := ⟨_, _, _, l_ACTIONS, lit_ACTIONS, v_ACTIONS_put, rfl⟩,
    kd_ACTIONS_get := ⟨_, _, _, l_ACTIONS, lit_ACTIONS, v_ACTIONS_get, rfl⟩,
    g_CONSTRAINT := PySem.W.mg_of X G a_CONSTRAINT,
    g_DEPTH_LIMIT := PySem.W.mg_of X G a_DEPTH_LIMIT,
    g_END := PySem.W.mg_of X G a_END,
    g_EXHAUSTED := PySem.W.mg_of X G a_EXHAUSTED,
    q_EXHAUSTED := fun H => sqT_of l_EXHAUSTED q_EXHAUSTED,
    g_FAULT := PySem.W.mg_of X G a_FAULT,
    q_FAULT := fun H => sqT_of l_FAULT q_FAULT,
    g_MAX := PySem.W.mg_of X G a_MAX,
    g_MIN := PySem.W.mg_of X G a_MIN,
    g_NORMAL := PySem.W.mg_of X G a_NORMAL,
    q_NORMAL := fun H => sqT_of l_NORMAL q_NORMAL,
    g_SIGNS := PySem.W.mg_of X G a_SIGNS,
    kd_SIGNS_add := ⟨_, _, _, l_SIGNS, lit_SIGNS, v_SIGNS_add, _, rfl⟩,
    kd_SIGNS_sub := ⟨_, _, _, l_SIGNS, lit_SIGNS, v_SIGNS_sub, _, rfl⟩,
    kd_SIGNS_mul := ⟨_, _, _, l_SIGNS, lit_SIGNS, v_SIGNS_mul, _, rfl⟩,
    kd_SIGNS_div := ⟨_, _, _, l_SIGNS, lit_SIGNS, v_SIGNS_div, _, rfl⟩,
    kd_SIGNS_mod := ⟨_, _, _, l_SIGNS, lit_SIGNS, v_SIGNS_mod, _, rfl⟩,
    kd_SIGNS_rem := ⟨_, _, _, l_SIGNS, lit_SIGNS, v_SIGNS_rem, _, rfl⟩,
    kd_SIGNS_less := ⟨_, _, _, l_SIGNS, lit_SIGNS, v_SIGNS_less, _, rfl⟩,
    kd_SIGNS_equal := ⟨_, _, _, l_SIGNS, lit_SIGNS, v_SIGNS_equal, _, rfl⟩,
    g_STORAGE := PySem.W.mg_of X G a_STORAGE,
    b_abs := PySem.W.mg_none_of X G z_abs,
    b_bool := PySem.W.mg_none_of X G z_bool,
    b_int := PySem.W.mg_none_of X G z_int,
    b_isinstance := PySem.W.mg_none_of X G z_isinstance,
    b_len := PySem.W.mg_none_of X G z_len,
    b_list := PySem.W.mg_none_of X G z_list,
    b_max := PySem.W.mg_none_of X G z_max,
    b_min := PySem.W.mg_none_of X G z_min,
    b_property := PySem.W.mg_none_of X G z_property,
    b_range := PySem.W.mg_none_of X G z_range,
    b_str := PySem.W.mg_none_of X G z_str,
    b_tuple := PySem.W.mg_none_of X G z_tuple,
    b_zip := PySem.W.mg_none_of X G z_zip,
    g_Unit := PySem.W.mg_of X G aC_Unit,
    cl_Unit := ⟨pg_Unit, hd_Unit, po_Unit, sa_Unit⟩,
    mk_Unit := ⟨mk_Unit, a_Unit___init__, i_Unit___init__, kC_Unit⟩,
    n_Unit_parent := n_Unit_parent,
    n_Unit_arguments := n_Unit_arguments,
    n_Unit_results := n_Unit_results,
    n_Unit_registers := n_Unit_registers,
    n_Unit_cells := n_Unit_cells,
    n_Unit_code := n_Unit_code,
    n_Unit_regions := n_Unit_regions,
    g_Module := PySem.W.mg_of X G aC_Module,
    cl_Module := ⟨pg_Module, hd_Module, po_Module, sa_Module⟩,
    mk_Module := ⟨mk_Module, a_Module___init__, i_Module___init__, kC_Module⟩,
    n_Module_units := n_Module_units,
    n_Module_names := n_Module_names,
    n_Module_places := n_Module_places,
    g_AdaError := PySem.W.mg_of X G aC_AdaError,
    x_AdaError := x_AdaError,
    kC_AdaError := kC_AdaError,
    s1_AdaError := s1_AdaError,
    ty_AdaError := ty_AdaError,
    ic_AdaError := ic_AdaError,
    g_Overflow := PySem.W.mg_of X G aC_Overflow,
    x_Overflow := x_Overflow,
    kC_Overflow := kC_Overflow,
    s1_Overflow := s1_Overflow,
    ty_Overflow := ty_Overflow,
    ic_Overflow := ic_Overflow,
    ec_Overflow := ⟨h1_Overflow, h2_Overflow, s1_Overflow, h3_Overflow, h4_Overflow, h5_Overflow, h6_Overflow, h7_Overflow⟩,
    g_DivisionByZero := PySem.W.mg_of X G aC_DivisionByZero,
    x_DivisionByZero := x_DivisionByZero,
    kC_DivisionByZero := kC_DivisionByZero,
    s1_DivisionByZero := s1_DivisionByZero,
    ty_DivisionByZero := ty_DivisionByZero,
    ic_DivisionByZero := ic_DivisionByZero,
    ec_DivisionByZero := ⟨h1_DivisionByZero, h2_DivisionByZero, s1_DivisionByZero, h3_DivisionByZero, h4_DivisionByZero, h5_DivisionByZero, h6_DivisionByZero, h7_DivisionByZero⟩,
    g_NoInput := PySem.W.mg_of X G aC_NoInput,
    x_NoInput := x_NoInput,
    kC_NoInput := kC_NoInput,
    s1_NoInput := s1_NoInput,
    ty_NoInput := ty_NoInput,
    ic_NoInput := ic_NoInput,
    ec_NoInput := ⟨h1_NoInput, h2_NoInput, s1_NoInput, h3_NoInput, h4_NoInput, h5_NoInput, h6_NoInput, h7_NoInput⟩,
    g_OutOfFuel := PySem.W.mg_of X G aC_OutOfFuel,
    x_OutOfFuel := x_OutOfFuel,
    kC_OutOfFuel := kC_OutOfFuel,
    s1_OutOfFuel := s1_OutOfFuel,
    ty_OutOfFuel := ty_OutOfFuel,
    ic_OutOfFuel := ic_OutOfFuel,
    ec_OutOfFuel := ⟨h1_OutOfFuel, h2_OutOfFuel, s1_OutOfFuel, h3_OutOfFuel, h4_OutOfFuel, h5_OutOfFuel, h6_OutOfFuel, h7_OutOfFuel⟩,
    g_Events := PySem.W.mg_of X G aC_Events,
    cl_Events := ⟨pg_Events, hd_Events, po_Events, sa_Events⟩,
    mk_Events := ⟨mk_Events, a_Events___init__, i_Events___init__, kC_Events⟩,
    n_Events__inputs := n_Events__inputs,
    n_Events__taken := n_Events__taken,
    n_Events__rows := n_Events__rows,
    m_Events_put := ⟨a_Events_put, i_Events_put, k_Events_put⟩,
    m_Events_get := ⟨a_Events_get, i_Events_get, k_Events_get⟩,
    g_Fuel := PySem.W.mg_of X G aC_Fuel,
    cl_Fuel := ⟨pg_Fuel, hd_Fuel, po_Fuel, sa_Fuel⟩,
    mk_Fuel := ⟨mk_Fuel, a_Fuel___init__, i_Fuel___init__, kC_Fuel⟩,
    n_Fuel__left := n_Fuel__left,
    m_Fuel_tick := ⟨a_Fuel_tick, i_Fuel_tick, k_Fuel_tick⟩,
    g_Layout := PySem.W.mg_of X G aC_Layout,
    cl_Layout := ⟨pg_Layout, hd_Layout, po_Layout, sa_Layout⟩,
    mk_Layout := ⟨mk_Layout, a_Layout___init__, i_Layout___init__, kC_Layout⟩,
    n_Layout_where := n_Layout_where,
    n_Layout_initial := n_Layout_initial,
    n_Layout_entrances := n_Layout_entrances,
    n_Layout_cleared := n_Layout_cleared,
    g_Activation := PySem.W.mg_of X G aC_Activation,
    cl_Activation := ⟨pg_Activation, hd_Activation, po_Activation, sa_Activation⟩,
    mk_Activation := ⟨mk_Activation, a_Activation___init__, i_Activation___init__, kC_Activation⟩,
    n_Activation_number := n_Activation_number,
    n_Activation_unit := n_Activation_unit,
    n_Activation_where := n_Activation_where,
    n_Activation_words := n_Activation_words,
    n_Activation_cells := n_Activation_cells,
    n_Activation_link := n_Activation_link,
    n_Activation_caller := n_Activation_caller,
    n_Activation_depth := n_Activation_depth,
    n_Activation_index := n_Activation_index,
    m_Activation_value := ⟨a_Activation_value, i_Activation_value, k_Activation_value⟩,
    m_Activation_write := ⟨a_Activation_write, i_Activation_write, k_Activation_write⟩,
    m_Activation_outward := ⟨a_Activation_outward, i_Activation_outward, k_Activation_outward⟩,
    g_Machine := PySem.W.mg_of X G aC_Machine,
    cl_Machine := ⟨pg_Machine, hd_Machine, po_Machine, sa_Machine⟩,
    mk_Machine := ⟨mk_Machine, a_Machine___init__, i_Machine___init__, kC_Machine⟩,
    n_Machine_module := n_Machine_module,
    n_Machine_layouts := n_Machine_layouts,
    n_Machine_events := n_Machine_events,
    n_Machine_fuel := n_Machine_fuel,
    n_Machine_current := n_Machine_current,
    n_Machine_ending := n_Machine_ending,
    m_Machine_activate := ⟨a_Machine_activate, i_Machine_activate, k_Machine_activate⟩,
    m_Machine_step := ⟨a_Machine_step, i_Machine_step, k_Machine_step⟩,
    m_Machine_finish := ⟨a_Machine_finish, i_Machine_finish, k_Machine_finish⟩,
    m_Machine_raise_exception := ⟨a_Machine_raise_exception, i_Machine_raise_exception, k_Machine_raise_exception⟩,
    e_Overflow_Overflow := exm_of s1_Overflow ic_Overflow ty_Overflow e_Overflow_Overflow,
    e_DivisionByZero_Overflow := exm_of s1_Overflow ic_Overflow ty_Overflow e_DivisionByZero_Overflow,
    e_Overflow_DivisionByZero := exm_of s1_DivisionByZero ic_DivisionByZero ty_DivisionByZero e_Overflow_DivisionByZero,
    e_DivisionByZero_DivisionByZero := exm_of s1_DivisionByZero ic_DivisionByZero ty_DivisionByZero e_DivisionByZero_DivisionByZero,
    e_NoInput_NoInput := exm_of s1_NoInput ic_NoInput ty_NoInput e_NoInput_NoInput,
    e_OutOfFuel_OutOfFuel := exm_of s1_OutOfFuel ic_OutOfFuel ty_OutOfFuel e_OutOfFuel_OutOfFuel }
  exact ⟨a.d_law, fun s v => .of_eq rfl, fun base _ _ => ok_law T⟩
theorem walk {l : PySem.W.OpenLaw} {q : Program} {loose : List Str} {XP : (Str → Option Value) → Heap → Prop} {YP : World → Heap → Prop} {d : DefRec} {K : Params → PySem.W.Frag} (hn : l.most = some 63) (hdf : d.params.defaults = [])
    (hY : ∀ (w : World) (h : Heap), YP w h → (K w.params).In h)
    (F : ∀ (w : World) (mg : Str → Option Value) (fa : Addr) (h : Heap), (K w.params).In h → h.Ns mainGlobals mg → mg d.name = some (.ref fa) →
      ∃ fd : FuncData, (∀ (s : Shared) (u : Value), BindsTo s fd ⟨[u], []⟩ [("script", u)]) ∧ ∀ base : Heap, (K w.params).In base → base.Ns mainGlobals mg → FnOk l.prog w (K w.params) mg base CX0 24 fa fd ["script"] (spLaw (K w.params))) :
    PySem.W.WalkO q loose XP YP l.row.toRowW d [] (fun f vs => PySem.call f vs) :=
  L2.walk_of (n := 63) (k := 24) (x := "script") (CX := fun _ => CX0) (sp := fun w => spLaw (K w.params)) hn (by decide) hdf ⟨rfl, by decide, by decide⟩ hY F (fun _ _ a ns hl _ hS => ⟨a, ns, rfl, hS, hl, fun _ => rfl⟩) fun _ _ _ _ _ z => z

end My
open PySem PySem.W PySem.Calls PyProof.Rows
set_option maxRecDepth 100000 in
set_option maxHeartbeats 0 in
theorem PySem.Challenge.cw_windowada_k30_regions_take_exceptions_holds : PySem.Challenge.rw_windowada_k30_regions_take_exceptions.Holds := by
  w_on; o_law
  refine HeadMy.head_mine (r := (PySem.W.OpenLaw.row PySem.Challenge.rw_windowada_k30_regions_take_exceptions)) (q := (PySem.W.view (PySem.W.OpenLaw.row PySem.Challenge.rw_windowada_k30_regions_take_exceptions).prog [71])) (M := 9000) (loose := HeadMy.names) (d := HandSHeadRun.topDef (PySem.W.OpenLaw.row PySem.Challenge.rw_windowada_k30_regions_take_exceptions).prog 71) (kwd := []) (kHook HeadMy.pre.heap_1 HeadMy.as0 HeadMy.ek0) rfl (byRow2 "special-get-raises" HeadMy.run_false HeadMy.run_true) (by kernel_rfl) (fun s => by kernel_rfl) (by kernel_rfl) (by kernel_rfl) (by kernel_rfl) (by rfl) (by first | assumption | decide +kernel) (by decide +kernel) ⟨rfl, rfl, rfl, rfl, rfl, by decide +kernel⟩ ?_ ?_
  · w_witness2
  k_fill
  refine My.walk (l := PySem.Challenge.rw_windowada_k30_regions_take_exceptions) rfl (by kernel_rfl) (fun w h Y => PySem.W.kIn_of Y) ?F
  case F =>
    intro w mg fa h KX G hmg0
    have hmg : mg ("law" : PySem.Str) = some (.ref fa) := by
      have e : (HandSHeadRun.topDef (PySem.W.OpenLaw.row PySem.Challenge.rw_windowada_k30_regions_take_exceptions).prog 71).name = ("law" : PySem.Str) := by kernel_rfl
      rw [← e]; exact hmg0
    refine' My.all_mk KX G hmg ?aC_Unit ?pg_Unit ?hd_Unit ?po_Unit ?sa_Unit ?mk_Unit ?kC_Unit ?n_Unit_parent ?n_Unit_arguments ?n_Unit_results ?n_Unit_registers ?n_Unit_cells ?n_Unit_code ?n_Unit_regions ?aC_Module ?pg_Module ?hd_Module ?po_Module ?sa_Module ?mk_Module ?kC_Module ?n_Module_units ?n_Module_names ?n_Module_places ?aC_AdaError ?x_AdaError ?kC_AdaError ?s1_AdaError ?ty_AdaError ?ic_AdaError ?aC_Overflow ?x_Overflow ?kC_Overflow ?s1_Overflow ?ty_Overflow ?ic_Overflow ?h1_Overflow ?h2_Overflow ?h3_Overflow ?h4_Overflow ?h5_Overflow ?h6_Overflow ?h7_Overflow ?aC_DivisionByZero ?x_DivisionByZero ?kC_DivisionByZero ?s1_DivisionByZero ?ty_DivisionByZero ?ic_DivisionByZero ?h1_DivisionByZero ?h2_DivisionByZero ?h3_DivisionByZero ?h4_DivisionByZero ?h5_DivisionByZero ?h6_DivisionByZero ?h7_DivisionByZero ?aC_NoInput ?x_NoInput ?kC_NoInput ?s1_NoInput ?ty_NoInput ?ic_NoInput ?h1_NoInput ?h2_NoInput ?h3_NoInput ?h4_NoInput ?h5_NoInput ?h6_NoInput ?h7_NoInput ?aC_OutOfFuel ?x_OutOfFuel ?kC_OutOfFuel ?s1_OutOfFuel ?ty_OutOfFuel ?ic_OutOfFuel ?h1_OutOfFuel ?h2_OutOfFuel ?h3_OutOfFuel ?h4_OutOfFuel ?h5_OutOfFuel ?h6_OutOfFuel ?h7_OutOfFuel ?aC_Events ?pg_Events ?hd_Events ?po_Events ?sa_Events ?mk_Events ?kC_Events ?n_Events__inputs ?n_Events__taken ?n_Events__rows ?aC_Fuel ?pg_Fuel ?hd_Fuel ?po_Fuel ?sa_Fuel ?mk_Fuel ?kC_Fuel ?n_Fuel__left ?aC_Layout ?pg_Layout ?hd_Layout ?po_Layout ?sa_Layout ?mk_Layout ?kC_Layout ?n_Layout_where ?n_Layout_initial ?n_Layout_entrances ?n_Layout_cleared ?aC_Activation ?pg_Activation ?hd_Activation ?po_Activation ?sa_Activation ?mk_Activation ?kC_Activation ?n_Activation_number ?n_Activation_unit ?n_Activation_where ?n_Activation_words ?n_Activation_cells ?n_Activation_link ?n_Activation_caller ?n_Activation_depth ?n_Activation_index ?aC_Machine ?pg_Machine ?hd_Machine ?po_Machine ?sa_Machine ?mk_Machine ?kC_Machine ?n_Machine_module ?n_Machine_layouts ?n_Machine_events ?n_Machine_fuel ?n_Machine_current ?n_Machine_ending ?e_Overflow_Overflow ?e_DivisionByZero_Overflow ?e_Overflow_DivisionByZero ?e_DivisionByZero_DivisionByZero ?e_NoInput_NoInput ?e_OutOfFuel_OutOfFuel ?a_wall ?l_wall ?c_wall ?k_wall ?a_fits ?l_fits ?c_fits ?k_fits ?a_arithmetic ?l_arithmetic ?c_arithmetic ?k_arithmetic ?a_negate ?l_negate ?c_negate ?k_negate ?a_absolute ?l_absolute ?c_absolute ?k_absolute ?a_compare ?l_compare ?c_compare ?k_compare ?a_word ?l_word ?c_word ?k_word ?a_result ?l_result ?c_result ?k_result ?a_quotient ?l_quotient ?c_quotient ?k_quotient ?a_compute ?l_compute ?c_compute ?k_compute ?a_Unit___init__ ?i_Unit___init__ ?l_Unit___init__ ?c_Unit___init__ ?k_Unit___init__ ?a_Module___init__ ?i_Module___init__ ?l_Module___init__ ?c_Module___init__ ?k_Module___init__ ?a_region_of ?l_region_of ?c_region_of ?k_region_of ?a_Events___init__ ?i_Events___init__ ?l_Events___init__ ?c_Events___init__ ?k_Events___init__ ?a_Events_put ?i_Events_put ?l_Events_put ?c_Events_put ?k_Events_put ?a_Events_get ?i_Events_get ?l_Events_get ?c_Events_get ?k_Events_get ?a_Events_rows ?g_Events_rows ?t_Events_rows ?r_Events_rows ?l_Events_rows ?c_Events_rows ?k_Events_rows ?a_Fuel___init__ ?i_Fuel___init__ ?l_Fuel___init__ ?c_Fuel___init__ ?k_Fuel___init__ ?a_Fuel_tick ?i_Fuel_tick ?l_Fuel_tick ?c_Fuel_tick ?k_Fuel_tick ?a_Fuel_remaining ?g_Fuel_remaining ?t_Fuel_remaining ?r_Fuel_remaining ?l_Fuel_remaining ?c_Fuel_remaining ?k_Fuel_remaining ?a_Layout___init__ ?i_Layout___init__ ?l_Layout___init__ ?c_Layout___init__ ?k_Layout___init__ ?a_plain_layout ?l_plain_layout ?c_plain_layout ?k_plain_layout ?a_Activation___init__ ?i_Activation___init__ ?l_Activation___init__ ?c_Activation___init__ ?k_Activation___init__ ?a_Activation_value ?i_Activation_value ?l_Activation_value ?c_Activation_value ?k_Activation_value ?a_Activation_write ?i_Activation_write ?l_Activation_write ?c_Activation_write ?k_Activation_write ?a_Activation_outward ?i_Activation_outward ?l_Activation_outward ?c_Activation_outward ?k_Activation_outward ?a_Machine___init__ ?i_Machine___init__ ?l_Machine___init__ ?c_Machine___init__ ?k_Machine___init__ ?a_Machine_activate ?i_Machine_activate ?l_Machine_activate ?c_Machine_activate ?k_Machine_activate ?a_Machine_step ?i_Machine_step ?l_Machine_step ?c_Machine_step ?k_Machine_step ?a_Machine_finish ?i_Machine_finish ?l_Machine_finish ?c_Machine_finish ?k_Machine_finish ?a_Machine_raise_exception ?i_Machine_raise_exception ?l_Machine_raise_exception ?c_Machine_raise_exception ?k_Machine_raise_exception ?a_do_tick ?l_do_tick ?c_do_tick ?k_do_tick ?a_do_move ?l_do_move ?c_do_move ?k_do_move ?a_do_sign ?l_do_sign ?c_do_sign ?k_do_sign ?a_do_arithmetic ?l_do_arithmetic ?c_do_arithmetic ?k_do_arithmetic ?a_do_compare ?l_do_compare ?c_do_compare ?k_do_compare ?a_do_check ?l_do_check ?c_do_check ?k_do_check ?a_do_load ?l_do_load ?c_do_load ?k_do_load ?a_do_store ?l_do_store ?c_do_store ?k_do_store ?a_do_jump ?l_do_jump ?c_do_jump ?k_do_jump ?a_do_branch ?l_do_branch ?c_do_branch ?k_do_branch ?a_do_call ?l_do_call ?c_do_call ?k_do_call ?a_do_return ?l_do_return ?c_do_return ?k_do_return ?a_do_raise ?l_do_raise ?c_do_raise ?k_do_raise ?a_do_again ?l_do_again ?c_do_again ?k_do_again ?a_do_put ?l_do_put ?c_do_put ?k_do_put ?a_do_get ?l_do_get ?c_do_get ?k_do_get ?a_run_module ?l_run_module ?c_run_module ?k_run_module ?a_law_start ?l_law_start ?c_law_start ?k_law_start ?a_law_take ?l_law_take ?c_law_take ?k_law_take ?a_law_place ?l_law_place ?c_law_place ?k_law_place ?a_law_region ?l_law_region ?c_law_region ?k_law_region ?a_law_shape ?l_law_shape ?c_law_shape ?k_law_shape ?a_law_raising ?l_law_raising ?c_law_raising ?k_law_raising ?a_law_unit ?l_law_unit ?c_law_unit ?k_law_unit ?a_law_taken ?l_law_taken ?c_law_taken ?k_law_taken ?a_law_rows ?l_law_rows ?c_law_rows ?k_law_rows ?a_law_walk ?l_law_walk ?c_law_walk ?k_law_walk ?a_law_alike ?l_law_alike ?c_law_alike ?k_law_alike ?a_law ?l_law ?c_law ?k_law ?a_ACTIONS ?l_ACTIONS ?lit_ACTIONS ?v_ACTIONS_tick ?v_ACTIONS_move ?v_ACTIONS_neg ?v_ACTIONS_abs ?v_ACTIONS_add ?v_ACTIONS_sub ?v_ACTIONS_mul ?v_ACTIONS_div ?v_ACTIONS_mod ?v_ACTIONS_rem ?v_ACTIONS_less ?v_ACTIONS_equal ?v_ACTIONS_check ?v_ACTIONS_load ?v_ACTIONS_store ?v_ACTIONS_jump ?v_ACTIONS_branch ?v_ACTIONS_call ?v_ACTIONS_return ?v_ACTIONS_raise ?v_ACTIONS_again ?v_ACTIONS_put ?v_ACTIONS_get ?a_CONSTRAINT ?a_DEPTH_LIMIT ?a_END ?a_EXHAUSTED ?l_EXHAUSTED ?q_EXHAUSTED ?a_FAULT ?l_FAULT ?q_FAULT ?a_MAX ?a_MIN ?a_NORMAL ?l_NORMAL ?q_NORMAL ?a_SIGNS ?l_SIGNS ?lit_SIGNS ?v_SIGNS_add ?v_SIGNS_sub ?v_SIGNS_mul ?v_SIGNS_div ?v_SIGNS_mod ?v_SIGNS_rem ?v_SIGNS_less ?v_SIGNS_equal ?a_STORAGE ?z_abs ?z_bool ?z_int ?z_isinstance ?z_len ?z_list ?z_max ?z_min ?z_property ?z_range ?z_str ?z_tuple ?z_zip
    (case aC_Unit => k_is)
    (case pg_Unit => k_is)
    (case hd_Unit => k_is)
    (case po_Unit => k_is)
    (case sa_Unit => k_is)
    (case mk_Unit => k_is)
    (case kC_Unit => k_is)
    (case n_Unit_parent => k_is)
    (case n_Unit_arguments => k_is)
    (case n_Unit_results => k_is)
    (case n_Unit_registers => k_is)
    (case n_Unit_cells => k_is)
    (case n_Unit_code => k_is)
    (case n_Unit_regions => k_is)
    (case aC_Module => k_is)
    (case pg_Module => k_is)
    (case hd_Module => k_is)
    (case po_Module => k_is)
    (case sa_Module => k_is)
    (case mk_Module => k_is)
    (case kC_Module => k_is)
    (case n_Module_units => k_is)
    (case n_Module_names => k_is)
    (case n_Module_places => k_is)
    (case aC_AdaError => k_is)
    (case x_AdaError => k_exc)
    (case kC_AdaError => k_is)
    (case s1_AdaError => k_is)
    (case ty_AdaError => k_is)
    (case ic_AdaError => k_is)
    (case aC_Overflow => k_is)
    (case x_Overflow => k_exc)
    (case kC_Overflow => k_is)
    (case s1_Overflow => k_is)
    (case ty_Overflow => k_is)
    (case ic_Overflow => k_is)
    (case h1_Overflow => k_is)
    (case h2_Overflow => k_is)
    (case h3_Overflow => k_is)
    (case h4_Overflow => k_is)
    (case h5_Overflow => k_is)
    (case h6_Overflow => k_is)
    (case h7_Overflow => k_is)
    (case aC_DivisionByZero => k_is)
    (case x_DivisionByZero => k_exc)
    (case kC_DivisionByZero => k_is)
    (case s1_DivisionByZero => k_is)
    (case ty_DivisionByZero => k_is)
    (case ic_DivisionByZero => k_is)
    (case h1_DivisionByZero => k_is)
    (case h2_DivisionByZero => k_is)
    (case h3_DivisionByZero => k_is)
    (case h4_DivisionByZero => k_is)
    (case h5_DivisionByZero => k_is)
    (case h6_DivisionByZero => k_is)
    (case h7_DivisionByZero => k_is)
    (case aC_NoInput => k_is)
    (case x_NoInput => k_exc)
    (case kC_NoInput => k_is)
    (case s1_NoInput => k_is)
    (case ty_NoInput => k_is)
    (case ic_NoInput => k_is)
    (case h1_NoInput => k_is)
    (case h2_NoInput => k_is)
    (case h3_NoInput => k_is)
    (case h4_NoInput => k_is)
    (case h5_NoInput => k_is)
    (case h6_NoInput => k_is)
    (case h7_NoInput => k_is)
    (case aC_OutOfFuel => k_is)
    (case x_OutOfFuel => k_exc)
    (case kC_OutOfFuel => k_is)
    (case s1_OutOfFuel => k_is)
    (case ty_OutOfFuel => k_is)
    (case ic_OutOfFuel => k_is)
    (case h1_OutOfFuel => k_is)
    (case h2_OutOfFuel => k_is)
    (case h3_OutOfFuel => k_is)
    (case h4_OutOfFuel => k_is)
    (case h5_OutOfFuel => k_is)
    (case h6_OutOfFuel => k_is)
    (case h7_OutOfFuel => k_is)
    (case aC_Events => k_is)
    (case pg_Events => k_is)
    (case hd_Events => k_is)
    (case po_Events => k_is)
    (case sa_Events => k_is)
    (case mk_Events => k_is)
    (case kC_Events => k_is)
    (case n_Events__inputs => k_is)
    (case n_Events__taken => k_is)
    (case n_Events__rows => k_is)
    (case aC_Fuel => k_is)
    (case pg_Fuel => k_is)
    (case hd_Fuel => k_is)
    (case po_Fuel => k_is)
    (case sa_Fuel => k_is)
    (case mk_Fuel => k_is)
    (case kC_Fuel => k_is)
    (case n_Fuel__left => k_is)
    (case aC_Layout => k_is)
    (case pg_Layout => k_is)
    (case hd_Layout => k_is)
    (case po_Layout => k_is)
    (case sa_Layout => k_is)
    (case mk_Layout => k_is)
    (case kC_Layout => k_is)
    (case n_Layout_where => k_is)
    (case n_Layout_initial => k_is)
    (case n_Layout_entrances => k_is)
    (case n_Layout_cleared => k_is)
    (case aC_Activation => k_is)
    (case pg_Activation => k_is)
    (case hd_Activation => k_is)
    (case po_Activation => k_is)
    (case sa_Activation => k_is)
    (case mk_Activation => k_is)
    (case kC_Activation => k_is)
    (case n_Activation_number => k_is)
    (case n_Activation_unit => k_is)
    (case n_Activation_where => k_is)
    (case n_Activation_words => k_is)
    (case n_Activation_cells => k_is)
    (case n_Activation_link => k_is)
    (case n_Activation_caller => k_is)
    (case n_Activation_depth => k_is)
    (case n_Activation_index => k_is)
    (case aC_Machine => k_is)
    (case pg_Machine => k_is)
    (case hd_Machine => k_is)
    (case po_Machine => k_is)
    (case sa_Machine => k_is)
    (case mk_Machine => k_is)
    (case kC_Machine => k_is)
    (case n_Machine_module => k_is)
    (case n_Machine_layouts => k_is)
    (case n_Machine_events => k_is)
    (case n_Machine_fuel => k_is)
    (case n_Machine_current => k_is)
    (case n_Machine_ending => k_is)
    (case e_Overflow_Overflow => first | rfl | k_is)
    (case e_DivisionByZero_Overflow => first | rfl | k_is)
    (case e_Overflow_DivisionByZero => first | rfl | k_is)
    (case e_DivisionByZero_DivisionByZero => first | rfl | k_is)
    (case e_NoInput_NoInput => first | rfl | k_is)
    (case e_OutOfFuel_OutOfFuel => first | rfl | k_is)
    (case a_wall => k_is)
    (case l_wall => k_is)
    (case c_wall => k_is)
    (case k_wall => k_is)
    (case a_fits => k_is)
    (case l_fits => k_is)
    (case c_fits => k_is)
    (case k_fits => k_is)
    (case a_arithmetic => k_is)
    (case l_arithmetic => k_is)
    (case c_arithmetic => k_is)
    (case k_arithmetic => k_is)
    (case a_negate => k_is)
    (case l_negate => k_is)
    (case c_negate => k_is)
    (case k_negate => k_is)
    (case a_absolute => k_is)
    (case l_absolute => k_is)
    (case c_absolute => k_is)
    (case k_absolute => k_is)
    (case a_compare => k_is)
    (case l_compare => k_is)
    (case c_compare => k_is)
    (case k_compare => k_is)
    (case a_word => k_is)
    (case l_word => k_is)
    (case c_word => k_is)
    (case k_word => k_is)
    (case a_result => k_is)
    (case l_result => k_is)
    (case c_result => k_is)
    (case k_result => k_is)
    (case a_quotient => k_is)
    (case l_quotient => k_is)
    (case c_quotient => k_is)
    (case k_quotient => k_is)
    (case a_compute => k_is)
    (case l_compute => k_is)
    (case c_compute => k_is)
    (case k_compute => k_is)
    (case a_Unit___init__ => k_is)
    (case i_Unit___init__ => first | rfl | k_is)
    (case l_Unit___init__ => k_is)
    (case c_Unit___init__ => k_is)
    (case k_Unit___init__ => k_is)
    (case a_Module___init__ => k_is)
    (case i_Module___init__ => first | rfl | k_is)
    (case l_Module___init__ => k_is)
    (case c_Module___init__ => k_is)
    (case k_Module___init__ => k_is)
    (case a_region_of => k_is)
    (case l_region_of => k_is)
    (case c_region_of => k_is)
    (case k_region_of => k_is)
    (case a_Events___init__ => k_is)
    (case i_Events___init__ => first | rfl | k_is)
    (case l_Events___init__ => k_is)
    (case c_Events___init__ => k_is)
    (case k_Events___init__ => k_is)
    (case a_Events_put => k_is)
    (case i_Events_put => first | rfl | k_is)
    (case l_Events_put => k_is)
    (case c_Events_put => k_is)
    (case k_Events_put => k_is)
    (case a_Events_get => k_is)
    (case i_Events_get => first | rfl | k_is)
    (case l_Events_get => k_is)
    (case c_Events_get => k_is)
    (case k_Events_get => k_is)
    (case a_Events_rows => k_is)
    (case g_Events_rows => k_is)
    (case t_Events_rows => k_is)
    (case r_Events_rows => k_is)
    (case l_Events_rows => k_is)
    (case c_Events_rows => k_is)
    (case k_Events_rows => k_is)
    (case a_Fuel___init__ => k_is)
    (case i_Fuel___init__ => first | rfl | k_is)
    (case l_Fuel___init__ => k_is)
    (case c_Fuel___init__ => k_is)
    (case k_Fuel___init__ => k_is)
    (case a_Fuel_tick => k_is)
    (case i_Fuel_tick => first | rfl | k_is)
    (case l_Fuel_tick => k_is)
    (case c_Fuel_tick => k_is)
    (case k_Fuel_tick => k_is)
    (case a_Fuel_remaining => k_is)
    (case g_Fuel_remaining => k_is)
    (case t_Fuel_remaining => k_is)
    (case r_Fuel_remaining => k_is)
    (case l_Fuel_remaining => k_is)
    (case c_Fuel_remaining => k_is)
    (case k_Fuel_remaining => k_is)
    (case a_Layout___init__ => k_is)
    (case i_Layout___init__ => first | rfl | k_is)
    (case l_Layout___init__ => k_is)
    (case c_Layout___init__ => k_is)
    (case k_Layout___init__ => k_is)
    (case a_plain_layout => k_is)
    (case l_plain_layout => k_is)
    (case c_plain_layout => k_is)
    (case k_plain_layout => k_is)
    (case a_Activation___init__ => k_is)
    (case i_Activation___init__ => first | rfl | k_is)
    (case l_Activation___init__ => k_is)
    (case c_Activation___init__ => k_is)
    (case k_Activation___init__ => k_is)
    (case a_Activation_value => k_is)
    (case i_Activation_value => first | rfl | k_is)
    (case l_Activation_value => k_is)
    (case c_Activation_value => k_is)
    (case k_Activation_value => k_is)
    (case a_Activation_write => k_is)
    (case i_Activation_write => first | rfl | k_is)
    (case l_Activation_write => k_is)
    (case c_Activation_write => k_is)
    (case k_Activation_write => k_is)
    (case a_Activation_outward => k_is)
    (case i_Activation_outward => first | rfl | k_is)
    (case l_Activation_outward => k_is)
    (case c_Activation_outward => k_is)
    (case k_Activation_outward => k_is)
    (case a_Machine___init__ => k_is)
    (case i_Machine___init__ => first | rfl | k_is)
    (case l_Machine___init__ => k_is)
    (case c_Machine___init__ => k_is)
    (case k_Machine___init__ => k_is)
    (case a_Machine_activate => k_is)
    (case i_Machine_activate => first | rfl | k_is)
    (case l_Machine_activate => k_is)
    (case c_Machine_activate => k_is)
    (case k_Machine_activate => k_is)
    (case a_Machine_step => k_is)
    (case i_Machine_step => first | rfl | k_is)
    (case l_Machine_step => k_is)
    (case c_Machine_step => k_is)
    (case k_Machine_step => k_is)
    (case a_Machine_finish => k_is)
    (case i_Machine_finish => first | rfl | k_is)
    (case l_Machine_finish => k_is)
    (case c_Machine_finish => k_is)
    (case k_Machine_finish => k_is)
    (case a_Machine_raise_exception => k_is)
    (case i_Machine_raise_exception => first | rfl | k_is)
    (case l_Machine_raise_exception => k_is)
    (case c_Machine_raise_exception => k_is)
    (case k_Machine_raise_exception => k_is)
    (case a_do_tick => k_is)
    (case l_do_tick => k_is)
    (case c_do_tick => k_is)
    (case k_do_tick => k_is)
    (case a_do_move => k_is)
    (case l_do_move => k_is)
    (case c_do_move => k_is)
    (case k_do_move => k_is)
    (case a_do_sign => k_is)
    (case l_do_sign => k_is)
    (case c_do_sign => k_is)
    (case k_do_sign => k_is)
    (case a_do_arithmetic => k_is)
    (case l_do_arithmetic => k_is)
    (case c_do_arithmetic => k_is)
    (case k_do_arithmetic => k_is)
    (case a_do_compare => k_is)
    (case l_do_compare => k_is)
    (case c_do_compare => k_is)
    (case k_do_compare => k_is)
    (case a_do_check => k_is)
    (case l_do_check => k_is)
    (case c_do_check => k_is)
    (case k_do_check => k_is)
    (case a_do_load => k_is)
    (case l_do_load => k_is)
    (case c_do_load => k_is)
    (case k_do_load => k_is)
    (case a_do_store => k_is)
    (case l_do_store => k_is)
    (case c_do_store => k_is)
    (case k_do_store => k_is)
    (case a_do_jump => k_is)
    (case l_do_jump => k_is)
    (case c_do_jump => k_is)
    (case k_do_jump => k_is)
    (case a_do_branch => k_is)
    (case l_do_branch => k_is)
    (case c_do_branch => k_is)
    (case k_do_branch => k_is)
    (case a_do_call => k_is)
    (case l_do_call => k_is)
    (case c_do_call => k_is)
    (case k_do_call => k_is)
    (case a_do_return => k_is)
    (case l_do_return => k_is)
    (case c_do_return => k_is)
    (case k_do_return => k_is)
    (case a_do_raise => k_is)
    (case l_do_raise => k_is)
    (case c_do_raise => k_is)
    (case k_do_raise => k_is)
    (case a_do_again => k_is)
    (case l_do_again => k_is)
    (case c_do_again => k_is)
    (case k_do_again => k_is)
    (case a_do_put => k_is)
    (case l_do_put => k_is)
    (case c_do_put => k_is)
    (case k_do_put => k_is)
    (case a_do_get => k_is)
    (case l_do_get => k_is)
    (case c_do_get => k_is)
    (case k_do_get => k_is)
    (case a_run_module => k_is)
    (case l_run_module => k_is)
    (case c_run_module => k_is)
    (case k_run_module => k_is)
    (case a_law_start => k_is)
    (case l_law_start => k_is)
    (case c_law_start => k_is)
    (case k_law_start => k_is)
    (case a_law_take => k_is)
    (case l_law_take => k_is)
    (case c_law_take => k_is)
    (case k_law_take => k_is)
    (case a_law_place => k_is)
    (case l_law_place => k_is)
    (case c_law_place => k_is)
    (case k_law_place => k_is)
    (case a_law_region => k_is)
    (case l_law_region => k_is)
    (case c_law_region => k_is)
    (case k_law_region => k_is)
    (case a_law_shape => k_is)
    (case l_law_shape => k_is)
    (case c_law_shape => k_is)
    (case k_law_shape => k_is)
    (case a_law_raising => k_is)
    (case l_law_raising => k_is)
    (case c_law_raising => k_is)
    (case k_law_raising => k_is)
    (case a_law_unit => k_is)
    (case l_law_unit => k_is)
    (case c_law_unit => k_is)
    (case k_law_unit => k_is)
    (case a_law_taken => k_is)
    (case l_law_taken => k_is)
    (case c_law_taken => k_is)
    (case k_law_taken => k_is)
    (case a_law_rows => k_is)
    (case l_law_rows => k_is)
    (case c_law_rows => k_is)
    (case k_law_rows => k_is)
    (case a_law_walk => k_is)
    (case l_law_walk => k_is)
    (case c_law_walk => k_is)
    (case k_law_walk => k_is)
    (case a_law_alike => k_is)
    (case l_law_alike => k_is)
    (case c_law_alike => k_is)
    (case k_law_alike => k_is)
    (case a_law => k_is)
    (case l_law => k_is)
    (case c_law => k_is)
    (case k_law => k_is)
    (case a_ACTIONS => k_is)
    (case l_ACTIONS => k_is)
    (case lit_ACTIONS => repeat (first | exact trivial | refine ⟨⟨_, _, rfl, rfl⟩, ?_⟩))
    (case v_ACTIONS_tick => k_is)
    (case v_ACTIONS_move => k_is)
    (case v_ACTIONS_neg => k_is)
    (case v_ACTIONS_abs => k_is)
    (case v_ACTIONS_add => k_is)
    (case v_ACTIONS_sub => k_is)
    (case v_ACTIONS_mul => k_is)
    (case v_ACTIONS_div => k_is)
    (case v_ACTIONS_mod => k_is)
    (case v_ACTIONS_rem => k_is)
    (case v_ACTIONS_less => k_is)
    (case v_ACTIONS_equal => k_is)
    (case v_ACTIONS_check => k_is)
    (case v_ACTIONS_load => k_is)
    (case v_ACTIONS_store => k_is)
    (case v_ACTIONS_jump => k_is)
    (case v_ACTIONS_branch => k_is)
    (case v_ACTIONS_call => k_is)
    (case v_ACTIONS_return => k_is)
    (case v_ACTIONS_raise => k_is)
    (case v_ACTIONS_again => k_is)
    (case v_ACTIONS_put => k_is)
    (case v_ACTIONS_get => k_is)
    (case a_CONSTRAINT => k_is)
    (case a_DEPTH_LIMIT => k_is)
    (case a_END => k_is)
    (case a_EXHAUSTED => k_is)
    (case l_EXHAUSTED => k_is)
    (case q_EXHAUSTED => refine ⟨rfl, _, _, rfl, by decide, ?_⟩; repeat (first | exact .nil | refine .cons ⟨_, rfl⟩ ?_))
    (case a_FAULT => k_is)
    (case l_FAULT => k_is)
    (case q_FAULT => refine ⟨rfl, _, _, rfl, by decide, ?_⟩; repeat (first | exact .nil | refine .cons ⟨_, rfl⟩ ?_))
    (case a_MAX => k_is)
    (case a_MIN => k_is)
    (case a_NORMAL => k_is)
    (case l_NORMAL => k_is)
    (case q_NORMAL => refine ⟨rfl, _, _, rfl, by decide, ?_⟩; repeat (first | exact .nil | refine .cons ⟨_, rfl⟩ ?_))
    (case a_SIGNS => k_is)
    (case l_SIGNS => k_is)
    (case lit_SIGNS => repeat (first | exact trivial | refine ⟨⟨_, _, rfl, rfl⟩, ?_⟩))
    (case v_SIGNS_add => k_is)
    (case v_SIGNS_sub => k_is)
    (case v_SIGNS_mul => k_is)
    (case v_SIGNS_div => k_is)
    (case v_SIGNS_mod => k_is)
    (case v_SIGNS_rem => k_is)
    (case v_SIGNS_less => k_is)
    (case v_SIGNS_equal => k_is)
    (case a_STORAGE => k_is)
    (case z_abs => k_is)
    (case z_bool => k_is)
    (case z_int => k_is)
    (case z_isinstance => k_is)
    (case z_len => k_is)
    (case z_list => k_is)
    (case z_max => k_is)
    (case z_min => k_is)
    (case z_property => k_is)
    (case z_range => k_is)
    (case z_str => k_is)
    (case z_tuple => k_is)
    (case z_zip => k_is)

