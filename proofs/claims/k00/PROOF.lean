import PyProof.Rows.All
import Wide.All
import OpenK.AllK
import Wide.FinOn
import KE.KExcSuper
import KE.KExcIs
import HandS.ForMost
import HandS.ForExc
import HandS.Wide
import HandS.IsInst
import HandS.ExcIs
import HandS.WordsExc
import HandS.Property
import HandS.More
import HandS.Codes
import HandS.ExcInit
import HandS.ExcField
import HandS.FStr
import HandS.HotCalls
import HandS.Style
import HandS.Dict
import PyProof.StrLawsRepr
import KE.GoesEnumKw
import HandS.StrMore
import HandS.MapJoin
import PySem.Challenge.RW_windowada_k00_tokens_with_places
set_option Elab.async false
set_option maxRecDepth 100000
set_option maxHeartbeats 4000000
set_option linter.all false
namespace My
open PySem L2
/-! ### helpers -/
def IsTupOf (o : Obj) (xs : List V) : Prop := o.cls = .type "tuple" ∧ ∃ (its : Array Value) (n : Nat), o.data = .seq its n ∧ its.size ≤ sizeLine ∧ Vals xs its.toList
theorem sqT_of {K : PySem.W.Frag} {H : Hp} {a : Addr} {o : Obj} {xs : List V} (h : K.lookup a = some o) (q : IsTupOf o xs) : SqT K H a xs := by
  obtain ⟨c, its, n, d, z, r⟩ := q
  exact .inr ⟨o, its, n, h, c, d, z, r⟩
theorem upd_self {H : Hp} {a : Addr} {o : HO} (h : H a = some o) : upd H a o = H := by
  funext b
  unfold upd
  split
  · rename_i e; rw [e, h]
  · rfl
theorem exm_of {K : PySem.W.Frag} {S C : Addr} (h1 : PySem.W.subIn K (.ref C) (.type "BaseException") = some true) (h2 : PySem.W.isClsIn K C = true) (h3 : PySem.W.typeIn K (.ref C) = some (.type "type")) {b : Bool} (h4 : PySem.W.subIn K (.ref S) (.ref C) = some b) :
    PySem.W.exmOne K (.ref S) (.ref C) = some b := by
  have e1 : (PySem.W.subIn K (.ref C) (.type "BaseException") == some true) = true := by rw [h1] <;> rfl
  have e2 : ((PySem.W.clsIn K C).isSome && PySem.W.typeIn K (.ref C) == some (.type "type")) = true := by
    have h2' : (PySem.W.clsIn K C).isSome = true := h2
    rw [h2', h3] <;> rfl
  show (if (PySem.W.subIn K (.ref C) (.type "BaseException") == some true) = true then (if ((PySem.W.clsIn K C).isSome && PySem.W.typeIn K (.ref C) == some (.type "type")) = true then PySem.W.subIn K (.ref S) (.ref C) else none) else none) = some b
  rw [if_pos e1, if_pos e2]
  exact h4
theorem sN {H H1 : Hp} {p : Addr} {o : HO} (s : Same H H1) (n : H1 p = none) : Same H (upd H1 p o) := fun b u e => by
  rw [upd_ne (ne_of_none (s b u e) n)]
  exact s b u e
theorem seqT {K : PySem.W.Frag} {H H' : Hp} {a : Addr} {xs : List V} (e : Same H H') (h : SqT K H a xs) : SqT K H' a xs := by
  rcases h with (h | ⟨o, h⟩) | h
  · exact .inl (.inl (e _ _ h))
  · exact .inl (.inr ⟨o, e _ _ h⟩)
  · exact .inr h
theorem ite3 {b : Bool} {A B : Prop} (h1 : b = true → A) (h2 : b = false → B) : if b = true then A else B := by
  cases b with
  | true => exact iteT (h1 rfl)
  | false => exact iteF (h2 rfl)
section
variable {X : Cx}
def rInS (K : PySem.W.Frag) : R2 := fun x y H Q => ∃ p xs, y = .ref p ∧ (SqL K H p xs ∨ SqT K H p xs) ∧ flatV x = true ∧ xs.all flatV = true ∧ Q (.bl (inV x xs)) H
def rNotInS (K : PySem.W.Frag) : R2 := fun x y H Q => ∃ p xs, y = .ref p ∧ (SqL K H p xs ∨ SqT K H p xs) ∧ flatV x = true ∧ xs.all flatV = true ∧ Q (.bl (!inV x xs)) H
theorem op_inS : OpR X (compareOp .In) (rInS X.K) := fun pins s σ H x y v u Q I rx ry h => op_in_seq pins s σ H x y v u Q I rx ry h
theorem op_notInS : OpR X (compareOp .NotIn) (rNotInS X.K) := fun pins s σ H x y v u Q I rx ry h => op_notIn_seq pins s σ H x y v u Q I rx ry h
end
theorem at0 {v : V} {r : List V} : atI (v :: r) 0 = some v := atI_nat (j := 0) rfl
theorem sUpd {H H1 : Hp} {p : Addr} {o : HO} (s : Same H H1) (n : H p = none) : Same H (upd H1 p o) := fun b u e => by
  rw [upd_ne (ne_of_none e n)]
  exact s b u e
/-! ### match over a value -/
structure PMC (X : Cx) (cases : List MatchCase) (t : V → TS) : Prop where
  run : ∀ (first : Bool) (pins : List (Addr × Obj)) (s : Shared) (σ : St) (H : Hp) (D : Ends) (x : V) (v : Value), Inv X pins σ H s → RelV x v → t x D σ H → wpAny (model X.prog X.w) X.A (matchCases cases X.env v first) (SP X pins D) X.xe s
def mNil : V → TS := fun _ D σ H => D.nx σ H
def mStr (z : Str) (t : TS) (u : V → TS) : V → TS := fun x D σ H => scal x (.str z) = true ∧ if decide (x = .str z) = true then t D σ H else u x D σ H
def tMatch (te : TE) (t : V → TS) : TS := fun D σ H => te σ H fun x H1 => t x D σ H1
section
variable {X : Cx}
theorem pmc_nil : PMC X [] mNil := ⟨fun _ _ _ σ H D x v I _ h => wpAny_matchCases_nil ⟨σ, H, I, h⟩⟩
theorem pmc_str {z : Str} {j : Nat} {p p2 : Pos} {body : List Stmt} {rest : List MatchCase} {t : TS} {u : V → TS} (hb : PSs X body t) (hr : PMC X rest u) : PMC X (⟨.MatchValue (.Constant (.str z) j p) p2, none, body⟩ :: rest) (mStr z t u) := by
  refine ⟨fun first pins s σ H D x v I r h => ?_⟩
  obtain ⟨hs, h⟩ := h
  refine wpAny_matchCases_cons (wpAny_matchPattern_Value ?_)
  have hz : PE X (.Constant (.str z) j p) (tC (.str z)) := pe_str
  refine thn (hz.run pins s σ H (fun y H1 => y = .str z ∧ H1 = H) I ⟨rfl, rfl⟩) fun w s1 ⟨y, H1, I1, r1, e1, e2⟩ => ?_
  subst e1; subst e2
  refine thn (op_eq pins s1 σ H1 x (.str z) v w (fun y H2 => y = .bl (decide (x = .str z)) ∧ H2 = H1) I1 r r1 ⟨hs, rfl, rfl⟩) fun c s2 ⟨y, H2, I2, r2, e1, e2⟩ => ?_
  subst e1; subst e2
  cases r2
  refine wpAny_truthy_bool ?_
  cases e : decide (x = V.str z) with
  | true =>
    rw [e] at h
    refine wpAny_assignInOrder_none ?_
    exact hb.run pins s2 σ H2 D I2 (by simpa using h)
  | false =>
    rw [e] at h
    exact hr.run false pins s2 σ H2 D x v I2 r (by simpa using h)
theorem ps_match {e : Expr} {cs : List MatchCase} {pos : Pos} {te : TE} {t : V → TS} (he : PE X e te) (hc : PMC X cs t) : PS X (.Match e cs pos) (tMatch te t) := by
  refine ⟨fun pins s σ H D I h => ?_⟩
  exact wpAny_Match (thn (he.run pins s σ H _ I h) fun v s1 ⟨x, H1, I1, r1, q1⟩ => hc.run true pins s1 σ H1 D x v I1 r1 q1)
/-- isinstance(e, c) in a suite, whatever the caught class is -/
def rIsEx (K : PySem.W.Frag) (a : Addr) (cls : Value) (d : Option Addr) : List V → Hp → VK → Prop := fun xs H Q => ∃ D, cls = .ref D ∧ d = none ∧ ExcC K D ∧ rIsE K D a xs H Q
theorem call_isEx {a : Addr} {cls : Value} {d : Option Addr} {oe : Obj} {pn : List (Addr × Obj)} (hz : Zc cls d oe) (hf : ∃ vs, oe.data = .fields vs) : CallR (X.suite a ((a, oe) :: pn)) (.builtin "isinstance") (rIsEx X.K a cls d) := by
  intro pins s σ H xs us Q I r h
  obtain ⟨D, rfl, rfl, C, h⟩ := h
  exact call_isE C hz hf pins s σ H xs us Q I r h
end
theorem kit_self {K : PySem.W.Frag} {D : Addr} : PySem.W.kitOne K (.ref D) (.ref D) = some true := by
  unfold PySem.W.kitOne
  rw [if_pos (by simp)]
theorem kit_no {K : PySem.W.Frag} {D C : Addr} (h : PySem.W.subIn K (.ref D) (.ref C) = some false) (hs : PySem.W.subIn K (.ref C) (.ref C) = some true) (h2 : PySem.W.isClsIn K C = true) (h3 : PySem.W.typeIn K (.ref C) = some (.type "type")) :
    PySem.W.kitOne K (.ref D) (.ref C) = some false := by
  have ne : ¬ ((Value.ref D == Value.ref C) = true) := fun e => by
    have e' : D = C := by simpa using e
    subst e'
    rw [h] at hs
    exact nomatch hs
  have e2 : ((PySem.W.clsIn K C).isSome && PySem.W.typeIn K (.ref C) == some (.type "type")) = true := by
    have h2' : (PySem.W.clsIn K C).isSome = true := h2
    rw [h2', h3] <;> rfl
  unfold PySem.W.kitOne
  rw [if_neg ne]
  show (if ((PySem.W.clsIn K C).isSome && PySem.W.typeIn K (.ref C) == some (.type "type")) = true then PySem.W.subIn K (.ref D) (.ref C) else none) = some false
  rw [if_pos e2]
  exact h
theorem kit_sub {K : PySem.W.Frag} {D C : Addr} {b : Bool} (h : PySem.W.subIn K (.ref D) (.ref C) = some b) (hs : b = false → PySem.W.subIn K (.ref C) (.ref C) = some true) (h2 : PySem.W.isClsIn K C = true) (h3 : PySem.W.typeIn K (.ref C) = some (.type "type")) :
    PySem.W.kitOne K (.ref D) (.ref C) = some b := by
  cases b with
  | false => exact kit_no h (hs rfl) h2 h3
  | true =>
    have e2 : ((PySem.W.clsIn K C).isSome && PySem.W.typeIn K (.ref C) == some (.type "type")) = true := by
      have h2' : (PySem.W.clsIn K C).isSome = true := h2
      rw [h2', h3] <;> rfl
    unfold PySem.W.kitOne
    split
    · rfl
    · show (if ((PySem.W.clsIn K C).isSome && PySem.W.typeIn K (.ref C) == some (.type "type")) = true then PySem.W.subIn K (.ref D) (.ref C) else none) = some true
      rw [if_pos e2]
      exact h
theorem kit_bt {K : PySem.W.Frag} {D : Addr} {n : String} {b : Bool} (hm : PySem.W.kitMeta n = true) (h : PySem.W.subIn K (.ref D) (.type n) = some b) : PySem.W.kitOne K (.ref D) (.type n) = some b := by
  unfold PySem.W.kitOne
  rw [if_neg (by simp)]
  show (if PySem.W.kitMeta n = true then PySem.W.subIn K (.ref D) (.type n) else none) = some b
  rw [if_pos hm]
  exact h
/-! ### a method that may raise, called in a try -/
section
variable {X : Cx} {CX : CXT} {k : Nat} {f C : Addr} {fd : FuncData} {ps : List Str} {sp : Sp} {E : St → XK} {m : Str} {pos apos : Pos} {e o : Expr} {es : List Expr} {ta : TE} {t : TA}
def tMethE (C : Addr) (m : Str) (sp : Sp) (E : St → XK) (ta : TE) (t : TA) : TE := fun σ H Q => ta σ H fun x H1 => ∃ a dx fs, x = .ref a ∧ H1 a = some (.ins C dx fs) ∧ fs.lookup m = none ∧ t σ H1 fun vs H2 => sp (x :: vs) H2 Q (E σ)
theorem pe_methE0 {pl : Sem Bool} (he : PE X o ta) (c : Cls X.K C) (hm : Meth X.K C m f) (F : FnOk X.prog X.w X.K X.mg X.base CX k f fd ps sp) (hr : Room k X.A) (hb : Binds X.K fd ps []) (hx : ∀ σ, PassesAt CX X σ (E σ))
    (ht : eval (.Call (.Attribute o m apos) [] [] pos) X.env = (do
      let ov ← eval o X.env
      standAt apos.atName
      let (f, first) ← holding [ov] (getMethod ov m pl)
      callWith pos f first (backTo pos (starEach [] X.env)) (backToKw pos (keywordEach [] X.env))) := by rfl) :
    PE X (.Call (.Attribute o m apos) [] [] pos) (tMethE C m sp E ta tNil) := by
  refine ⟨fun pins s σ H Q I h => ?_⟩
  refine PySem.W.methodCall_KW (pl := pl) (thn (he.run pins s σ H _ I h) fun u s1 ⟨x, H1, I1, rx, a, dx, fs, ex, ea, l, q⟩ => ?_) ht
  subst ex
  obtain rfl : u = Value.ref a := rx
  refine getmeth_ok I1 ea c hm l ?_
  exact PySem.W.callWith_K0 (first := [.ref a]) I1.kIn hm.kp (run_fnS (us := [.ref a]) (vs := [.ref a]) F hr hb (hx σ) I1 (.cons rfl .nil) q)
theorem pe_methE {pl : Sem Bool} (he : PE X o ta) (c : Cls X.K C) (hm : Meth X.K C m f) (F : FnOk X.prog X.w X.K X.mg X.base CX k f fd ps sp) (hr : Room k X.A) (hb : Binds X.K fd ps []) (hx : ∀ σ, PassesAt CX X σ (E σ)) (ha : PA X (e :: es) t)
    (hst : starEach (e :: es) X.env = (false, eval e X.env) :: starEach es X.env := by rfl) (hpl : (backTo pos (starEach es X.env)).any (·.1) = false := by rfl)
    (ht : eval (.Call (.Attribute o m apos) (e :: es) [] pos) X.env = (do
      let ov ← eval o X.env
      standAt apos.atName
      let (f, first) ← holding [ov] (getMethod ov m pl)
      callWith pos f first (backTo pos (starEach (e :: es) X.env)) (backToKw pos (keywordEach [] X.env))) := by rfl) :
    PE X (.Call (.Attribute o m apos) (e :: es) [] pos) (tMethE C m sp E ta t) := by
  refine ⟨fun pins s σ H Q I h => ?_⟩
  refine PySem.W.methodCall_KW (pl := pl) (thn (he.run pins s σ H _ I h) fun u s1 ⟨x, H1, I1, rx, a, dx, fs, ex, ea, l, q⟩ => ?_) ht
  subst ex
  obtain rfl : u = Value.ref a := rx
  refine getmeth_ok I1 ea c hm l ?_
  refine PySem.W.callWith_K (first := [.ref a]) (h₀ := X.base) I.ok.mod.kin hm.kp (thn (ha.run pos pins s1 σ H1 _ I1 q) fun us s2 ⟨vs, H2, I2, r, q2⟩ => ⟨I2.kIn, ?_⟩) hst hpl
  exact run_fnS (us := .ref a :: us) (vs := .ref a :: vs) F hr hb (hx σ) I2 (.cons rfl r) q2
end
def spNever : Sp := fun _ _ _ _ => False
theorem tyx_tup {K : PySem.W.Frag} {H : Hp} {a : Addr} {xs : List V} (h : SqT K H a xs) : TyX K H (.ref a) (.type "tuple") := by
  rcases h with (h | ⟨o, h⟩) | ⟨o, its, n, hk, hc, _⟩
  · exact .base (.tup h)
  · exact .fTuple h
  · exact .kTuple hk hc

/-! ### a target self.f of an exception that is being made -/
def gOst (K : PySem.W.Frag) (f : Str) (to : TE) : TG := fun y σ H Q => to σ H fun x H2 => ∃ a C : Addr, x = .ref a ∧ OexC K C ∧ PySem.W.findIn K (.ref C) f = some none ∧
  ((H2 a = some (exo a C none) ∧ ∀ dx, H2 dx = none → dx ≠ a → Q σ (upd (upd H2 dx (exd dx [(f, y)])) a (exo a C (some dx)))) ∨
   ∃ (dx : Addr) (fs : List (Str × V)), H2 a = some (exo a C (some dx)) ∧ H2 dx = some (exd dx fs) ∧ fs.length ≤ 900 ∧ Q σ (upd H2 dx (exd dx ((f, y) :: fs))))
theorem pg_ost {X : Cx} {o : Expr} {f : Str} {p : Pos} {to : TE} (ho : PE X o to) : PG X (.Attribute o f p) (gOst X.K f to) := by
  refine ⟨fun pins s σ H v u Q I r h => ?_⟩
  rw [assign_Attribute]
  refine wpAny_bind (wpAny_holding (thn (ho.run pins s σ H _ I h) fun ov s2 hs => ?_))
  obtain ⟨x, H2, I2, r2, a, C, ex, T, hno, q⟩ := hs
  subst ex
  obtain rfl : ov = Value.ref a := r2
  refine wpAny_bind (wpAny_standAt ?_)
  rcases q with ⟨ea, q⟩ | ⟨dx, fs, ea, ed, hl, q⟩
  · exact wpAny_bind (wpAny_holding (ost_new T I2 ea hno r fun dx s' n ne J => wpAny_release ⟨σ, _, J, q dx n ne⟩))
  · exact wpAny_bind (wpAny_holding (ost_old T I2 ea ed hl hno r fun s' J => wpAny_release ⟨σ, _, J, q⟩))
/-! ### super().__init__(message) in the __init__ of an own exception -/
/-- what the written part says of a class under the class at D -/
structure SupC (K : PySem.W.Frag) (D C : Addr) : Prop where
  oex : OexC K C
  sub : PySem.W.mroIn K C (.ref D) = some true
  sup : PySem.W.ks_superIn K C D "__init__" = some (some (.builtin "ValueError.__init__"))
  isv : PySem.W.subIn K (.ref C) (.type "ValueError") = some true
  fl : PySem.W.findIn K (.ref C) "line" = some none
  fc : PySem.W.findIn K (.ref C) "column" = some none
def supEnv (qual : Str) (sc : Scope) (L f : Addr) (cda cc : Addr) : Env := PySem.W.ksEnv qual sc L f (.ref cda) cc
/-- the context of such a body -/
def cxS (P : Program) (w : World) (K : PySem.W.Frag) (mg : Str → Option Value) (base : Heap) (qual : Str) (sc : Scope) (f cda cc : Addr) (A : Around) (outer : List Env) (s : Shared) (H : Hp) (E : XK) : Cx where
  prog := P
  w := w
  K := K
  mg := mg
  base := base
  A := A.deeper (supEnv qual sc s.heap.objs.size f cda cc)
  N := ["self", "message", "place"]
  s_0 := s
  H_0 := H
  env := supEnv qual sc s.heap.objs.size f cda cc
  outer := outer
  stack := supEnv qual sc s.heap.objs.size f cda cc :: outer
  ex := []
  fn := fun _ => false
  calm := true
  pn := []
  xe := fun e s' => wpAny (model P w) (A.deeper (supEnv qual sc s.heap.objs.size f cda cc)) (leaving (supEnv qual sc s.heap.objs.size f cda cc) e) (fun _ s'' => CX0 outer H s E e s'') (fun e' s'' => CX0 outer H s E e' s'') s'
/-- the scope of such a body -/
structure SupS (sc : Scope) : Prop where
  knd : sc.kind = .function
  cor : sc.isCoroutine = false
  gnr : sc.isGenerator = false
  noc : ∀ x ∈ sc.names, x.2 ≠ .cell
  fr : ∀ y : Str, sc.names.lookup y = some .free → y = "__class__"
  se : sc.names.lookup ("self" : Str) = some .local
  me : sc.names.lookup ("message" : Str) = some .local
  pl : sc.names.lookup ("place" : Str) = some .local
  cl : sc.names.lookup ("__class__" : Str) = some .free
  su : sc.names.lookup ("super" : Str) = some .globalImplicit
theorem cells_cc {x : Str} {c cc : Addr} (h : ([("__class__", cc)] : List (Str × Addr)).lookup x = some c) : c = cc := by
  by_cases e : (x == ("__class__" : Str)) = true
  · rw [List.lookup_cons] at h
    rw [e] at h
    exact (Option.some.inj h).symm
  · have e' : (x == ("__class__" : Str)) = false := by simpa using e
    rw [List.lookup_cons] at h
    rw [e'] at h
    cases h
theorem inv_sup {P : Program} {w : World} {K : PySem.W.Frag} {mg : Str → Option Value} {base : Heap} {qual : Str} {sc : Scope} {f cda cc : Addr} {A : Around} {outer : List Env} {s : Shared} {H : Hp} {E : XK} {u0 u1 u2 : Value} {v0 v1 v2 : V} {h₀ : Heap} {tk : Nat} {oc : Obj} {cv : Option Value}
    (S : SupS sc) (hA : A.handled = none) (e0 : Env0 P w K mg base A outer s H) (r0 : RelV v0 u0) (r1 : RelV v1 u1) (r2 : RelV v2 u2) (hcc : K.lookup cc = some oc) (hcd : oc.data = .cell cv)
    (hns : h₀.Ns s.heap.objs.size (fun y => ([("self", u0), ("message", u1), ("place", u2)] : List (Str × Value)).reverse.lookup y)) (kk : ∀ b o, s.heap.get? b = some o → h₀.get? b = some o) :
    Inv (cxS P w K mg base qual sc f cda cc A outer s H E) [] [some v0, some v1, some v2] H { s with heap := h₀, toks := tk } := by
  have hb : base.get? cc = some oc := e0.mod.kin _ _ hcc
  have hs : s.heap.get? cc = some oc := (e0.bs _ _ hb).1
  have hHc : H cc = none := (e0.bs _ _ hb).2
  have nox : ∀ b : Addr, b ∉ (cxS P w K mg base qual sc f cda cc A outer s H E).ex := fun b z => absurd (show b ∈ ([] : List Addr) from z) (by simp)
  have okX : (cxS P w K mg base qual sc f cda cc A outer s H E).Ok :=
    { mod := e0.mod, kind := S.knd, glob := rfl, blt := rfl, above := Nat.le_refl _
      inj := fun x y c h1 h2 => by
        have one : ∀ z : Str, ([("__class__", cc)] : List (Str × Addr)).lookup z = some c → z = "__class__" := fun z hz => by
          by_cases e : (z == ("__class__" : Str)) = true
          · simpa using e
          · have e' : (z == ("__class__" : Str)) = false := by simpa using e
            rw [List.lookup_cons, e'] at hz
            cases hz
        exact (one x h1).trans (one y h2).symm
      has := fun x hx => by
        rcases hx with hx | hx
        · exact absurd rfl (S.noc _ (PySem.mem_of_lookup (show sc.names.lookup x = some .cell from hx)))
        · obtain rfl := S.fr x hx
          exact ⟨cc, rfl⟩
      cab := fun x c hx _ => by cases hx
      hd := fun _ => hA
      frames := Around.frames_deeper e0.frames
      stk := .inr ⟨rfl, rfl⟩
      exf := fun b z => absurd z (nox b)
      bs := e0.bs, bsz := e0.bsz, noex := fun b _ _ => nox b, exfs := fun b z => absurd z (nox b), funs := e0.funs, frf := e0.frf }
  refine { ok := okX, os := rfl, bare := e0.bare, base := Un.kept kk, loc := ⟨_, hns, fun i y v h1 h2 h3 => ?_⟩, cell := fun y c h => ?_, free := e0.hok.fresh (Nat.le_refl _), freeC := fun y c h => ?_, pin := fun p hp => absurd (show p ∈ ([] : List (Addr × Obj)) from hp) (by simp), hok := e0.hok.kept kk, len := rfl }
  · match i, h1, h2 with
    | 0, h1, h2 =>
      cases h1; cases h2
      exact ⟨u0, r0, .inl ⟨S.se, rfl⟩⟩
    | 1, h1, h2 =>
      cases h1; cases h2
      exact ⟨u1, r1, .inl ⟨S.me, rfl⟩⟩
    | 2, h1, h2 =>
      cases h1; cases h2
      exact ⟨u2, r2, .inl ⟨S.pl, rfl⟩⟩
    | i + 3, h1, h2 => cases h1
  · rw [cells_cc h]
    exact ⟨cv, oc, kk _ _ hs, hcd⟩
  · rw [cells_cc h]
    exact hHc

/-- the built-in __init__ bound to the exception at a, called: nothing of it is told -/
theorem mw_ok {X : Cx} {pins : List (Addr × Obj)} {σ : St} {H : Hp} {s : Shared} {a C u : Addr} {us : List Value} {A : Around} {Er : Value → Shared → Prop} {Q : Value → Shared → Prop} (T : OexC X.K C) (I : Inv X pins σ H s) (e : H a = some (exo a C none)) (hl : us.length ≤ sizeLine)
    (hu : s.heap.get? u = some (PySem.W.kxs_mw "ValueError.__init__" a)) (h : ∀ s', Inv X pins σ H s' → Q .none s') : wpAny (model X.prog X.w) A (call (.ref u) us) Q Er s := by
  obtain ⟨nm, q, N, bs, bm, sn, sub, ab, col, dd, k0, k1, k2, k3, k5, hC, hbm⟩ := T.cls
  obtain ⟨t1, ho⟩ := exo_at I.hok e
  obtain ⟨hp, g, d, t, os⟩ := s
  refine wpAny_call (codeAny_of_tree ?_)
  show wpAny _ A.in1 (callAny (.ref u) ⟨us, []⟩) _ _ _
  simp only [callAny]
  refine wpAny_bind (wpAny_load hu ?_)
  have y1 : (Value.type "method-wrapper" == Value.type "method" || Value.type "method-wrapper" == Value.type "builtin_function_or_method" || Value.type "method-wrapper" == Value.type "method-wrapper") = true := by decide
  simp only [PySem.W.kxs_mw, y1, if_true]
  refine PySem.W.KFB.if_so (by decide) ?_
  refine wpAny_bind (PySem.W.check_bound_init F.excBase_ValueError.toExcCallFacts (I.kIn _ _ hC) ho rfl ?_)
  refine wpAny_bind (wpAny_pure (wpAny_pure ?_))
  refine ⟨plainId_quiet F.excBase_ValueError.init.plain _, codeAny_builtin F.excBase_ValueError.initEntry ?_⟩
  refine PySem.W.exc_init_tree (cls := .ref C) (t0 := t1) (dv := none) (c2 := .none) (c3 := .none) (b4 := .bool false) ho hl fun h' kb hx _ => ?_
  have J := I.write (t' := t) (x := a) (e := a) (o := exo a C none) (by rw [e]; exact True.intro) (.inl rfl) kb ⟨_, hx⟩ (exo_ok hx)
  have eu : upd H a (exo a C none) = H := upd_self e
  rw [eu] at J
  exact h _ J
/-- super() ahead of .__init__, then the bound __init__: the machine's steps up to the call's arguments -/
theorem sup_pre {P : Program} {w : World} {K : PySem.W.Frag} {mg : Str → Option Value} {base : Heap} {qual : Str} {sc : Scope} {f cda cc D : Addr} {A : Around} {outer : List Env} {s s1 : Shared} {H H1 : Hp} {E : XK} {σ : St} {a C : Addr} {body : List Stmt} {p0 p1 : Pos} {fo : Obj} {fd : FuncData} {vs : Array Value} {file : Str} {tf : Tok}
    {co ccl : Obj} {cdD : ClassData} {ar : Arg} {whole : Sem Value} {Q : Value → Shared → Prop} {Er : Value → Shared → Prop}
    (S : SupS sc) (Y : SupC K D C) (hfd : K.lookup f = some fo) (hfo : fo.data = .func fd) (hp : (fd.params.posonlyargs ++ fd.params.args).head? = some ar) (har : ar.arg = "self")
    (hco : K.lookup cda = some co) (hcd : co.data = .fields vs) (hvs : vs[2]? = some (.str file tf)) (hfile : ((P.main.file : Str) == file) = true) (hcc : K.lookup cc = some ccl) (hcl : ccl.data = .cell (some (.ref D)))
    (hD : PySem.W.clsIn K D = some cdD) (hsu : mg "super" = none) (htop : (P.main.scope.names.lookup ("super" : Str)).isSome = false)
    (I : Inv (cxS P w K mg base qual sc f cda cc A outer s H E) [] σ H1 s1) (hσ : σ[0]? = some (some (.ref a))) (ha : H1 a = some (exo a C none))
    (h : ∀ so s2, Inv (cxS P w K mg base qual sc f cda cc A outer s H E) [] σ H1 s2 → s2.heap.get? so = some (PySem.W.ks_superObj D a C) → Q (.ref so) s2) :
    _root_.PySem.wpAt (model P w) (A.deeper (supEnv qual sc s.heap.objs.size f cda cc)) (.func body (supEnv qual sc s.heap.objs.size f cda cc)) (attributeBase (.Call (.Name "super" p0) [] [] p1) "__init__" (supEnv qual sc s.heap.objs.size f cda cc) whole) Q Er s1 := by
  obtain ⟨t1, hx⟩ := exo_at I.hok ha
  have KX : K.In s1.heap := I.kIn
  obtain ⟨oD, hD1, hD2⟩ : ∃ oD, s1.heap.get? D = some oD ∧ oD.data = .cls cdD := by
    unfold PySem.W.clsIn at hD
    split at hD
    · rename_i c d cd' sl ho
      cases hD
      exact ⟨_, KX _ _ ho, rfl⟩
    · cases hD
  have IX : PySem.W.InstAt s1.heap a { cls := .ref C, dict := none, data := .fields #[.ref t1, .none, .none, .none, .bool false, .none] } C none := ⟨hx, rfl, rfl, trivial⟩
  refine ks_wpAt_super_base (env := supEnv qual sc s.heap.objs.size f cda cc) S.su S.cl (by decide) rfl (KX _ _ hfd) hfo hp rfl (KX _ _ hco) hcd hvs hfile htop ?_
  obtain ⟨mb, hb1, hb2⟩ := I.mod.blt
  refine PySem.W.ks_loadName_global S.knd S.su (Calls.loadGlobal_builtin (env := supEnv qual sc s.heap.objs.size f cda cc) (I.mod.glob.keeps I.bk) hsu (hb1.keeps I.bk) ((hb2 _ (by decide +kernel)).trans PyProof.Rows.Boot.«super») ⟨rfl, ?_⟩)
  refine wpAny_loadName_free S.knd S.cl rfl ⟨_, KX _ _ hcc, hcl⟩ ?_
  obtain ⟨m, hns, hloc⟩ := I.loc
  obtain ⟨u, ru, lk⟩ := hloc 0 "self" (.ref a) rfl hσ (.inl S.se)
  obtain rfl : u = Value.ref a := ru
  rw [har]
  have hm : m "self" = some (Value.ref a) := by
    rcases lk with ⟨_, q⟩ | ⟨q, _⟩
    · exact q
    · have q' : sc.names.lookup ("self" : Str) = some .cell ∨ sc.names.lookup ("self" : Str) = some .free := q
      rw [S.se] at q'
      rcases q' with q' | q' <;> cases q'
  refine wpAny_loadName_local S.knd S.se hns hm ?_
  refine ks_wpAny_isType_cls hD1 hD2 ⟨rfl, ?_⟩
  obtain ⟨hh, g, d, t, os⟩ := s1
  refine ks_wpAny_call_super hD1 hD2 IX.at_ IX.cls (fun c e => ?_) (PySem.W.looks_mroIn KX Y.sub) (fun h' eh kh => ?_)
  · cases e
  · exact h _ _ (I.kept (t' := t) kh) eh
theorem sup_meth {P : Program} {w : World} {K : PySem.W.Frag} {mg : Str → Option Value} {base : Heap} {qual : Str} {sc : Scope} {f cda cc D : Addr} {A : Around} {outer : List Env} {s s1 : Shared} {H H1 : Hp} {E : XK} {σ : St} {a C so : Addr} {cd : ClassData} {pl : Sem Bool} {B : Around} {Q : Value × List Value → Shared → Prop} {Er : Value → Shared → Prop}
    (Y : SupC K D C) (hC : PySem.W.clsIn K C = some cd) (hst : PySem.W.nsIn K cStatics "thirdparty.any" = some none)
    (I : Inv (cxS P w K mg base qual sc f cda cc A outer s H E) [] σ H1 s1) (ha : H1 a = some (exo a C none)) (hso : s1.heap.get? so = some (PySem.W.ks_superObj D a C))
    (h : ∀ u s2, Inv (cxS P w K mg base qual sc f cda cc A outer s H E) [(u, PySem.W.kxs_mw "ValueError.__init__" a)] σ H1 s2 → Q (.ref u, []) s2) :
    wpAny (model P w) B (getMethod (.ref so) "__init__" pl) Q Er s1 := by
  obtain ⟨t1, hx⟩ := exo_at I.hok ha
  have KX : K.In s1.heap := I.kIn
  have IX : PySem.W.InstAt s1.heap a { cls := .ref C, dict := none, data := .fields #[.ref t1, .none, .none, .none, .bool false, .none] } C none := ⟨hx, rfl, rfl, trivial⟩
  have hI : PySem.W.Looks (model P w) s1.heap (isInstance (.ref a) (.type "ValueError")) true := IX.type.andThen (PySem.W.looks_subIn KX Y.isv)
  have hsup := Y.sup
  unfold PySem.W.ks_superIn at hsup
  rw [hC] at hsup
  have hfresh : H1 s1.heap.objs.size = none := I.hok.fresh (Nat.le_refl _)
  have hL := I.lt
  have hnf := I.nofs (Nat.le_refl _)
  obtain ⟨hh, g, d, t, os⟩ := s1
  refine PySem.W.kxs_getMethod PySem.W.kxs_ValueError hso (PySem.W.looks_opaque KX hst) (l₀ := cd.mro) ?_ rfl KX hsup hI (PySem.W.ks_ne KX IX hC) (by decide) ?_
  · exact fun A Q E s k q => wpAny_bind ((PySem.W.looks_clsIn KX hC) A _ E s k (wpAny_pure q))
  · have J := I.kept (t' := t + 1) (h' := hh.push (PySem.W.kxs_mw "ValueError.__init__" a)) fun b o e => Heap.get?_push_of_some _ e
    refine h _ _ (J.pins_of fun p hp => ?_)
    obtain rfl : p = (hh.objs.size, PySem.W.kxs_mw "ValueError.__init__" a) := by simpa using hp
    exact ⟨Heap.get?_push_size _ rfl, hfresh, Nat.ne_of_gt hL, hnf, fun v z => by cases z⟩
/-- the promise of that __init__ -/
def spSup (K : PySem.W.Frag) (D : Addr) : Sp := fun vs H Q _ => ∃ (a C q : Addr) (m l c : V), vs = [.ref a, m, .ref q] ∧ SupC K D C ∧ H a = some (exo a C none) ∧ SqT K H q [l, c] ∧
  ∀ dx, H dx = none → dx ≠ a → Q .non (upd (upd (upd H dx (exd dx [("line", l)])) a (exo a C (some dx))) dx (exd dx [("column", c), ("line", l)]))
def tFields (K : PySem.W.Frag) : TS := tAsg (tVar 2) (gTup K 2 (gCons (gOst K "line" (tVar 0)) (gCons (gOst K "column" (tVar 0)) gNil)))
theorem ok_sup {P : Program} {w : World} {K : PySem.W.Frag} {mg : Str → Option Value} {base : Heap} {name qual : Str} {params : Arguments} {body rest : List Stmt} {sc : Scope} {dV kV doc pm ct oc : Value} {an od : Option Addr} {osl : Array (Option Value)} {f cda cc D : Addr} {vs : Array Value} {file : Str} {tf : Tok}
    {co ccl : Obj} {cdD : ClassData} {ar : Arg} {p0 p1 p2 p3 p4 p5 : Pos}
    (lk : K.lookup f = some ⟨oc, od, .func (PySem.W.ksFn name qual params body sc dV kV doc pm an (.ref cda) ct cc), osl⟩) (hcode : PySem.W.codeIn K (.ref cda) qual = true) (S : SupS sc)
    (hp : (params.posonlyargs ++ params.args).head? = some ar) (har : ar.arg = "self")
    (hco : K.lookup cda = some co) (hcd : co.data = .fields vs) (hvs : vs[2]? = some (.str file tf)) (hfile : ((P.main.file : Str) == file) = true) (hcc : K.lookup cc = some ccl) (hcl : ccl.data = .cell (some (.ref D)))
    (hD : PySem.W.clsIn K D = some cdD) (hsu : mg "super" = none) (htop : (P.main.scope.names.lookup ("super" : Str)).isSome = false) (hst : PySem.W.nsIn K cStatics "thirdparty.any" = some none)
    (hbody : body = .Expr (.Call (.Attribute (.Call (.Name "super" p0) [] [] p1) "__init__" p2) [.Name "message" p3] [] p4) p5 :: rest)
    {pl : Addr → Sem Bool}
    (hev : ∀ L : Addr, eval (.Call (.Attribute (.Call (.Name "super" p0) [] [] p1) "__init__" p2) [.Name "message" p3] [] p4) (supEnv qual sc L f cda cc) = (do
      let ov ← attributeBase (.Call (.Name "super" p0) [] [] p1) "__init__" (supEnv qual sc L f cda cc) (eval (.Call (.Name "super" p0) [] [] p1) (supEnv qual sc L f cda cc))
      standAt p2.atName
      let (g, first) ← holding [ov] (getMethod ov "__init__" (pl L))
      callWith p4 g first (backTo p4 (starEach [.Name "message" p3] (supEnv qual sc L f cda cc))) []))
    (hrest : ∀ (A : Around) (outer : List Env) (s : Shared) (H : Hp) (E : XK), PSs (cxS P w K mg base qual sc f cda cc A outer s H E) rest (tFields K)) :
    FnOk P w K mg base CX0 1 f (PySem.W.ksFn name qual params body sc dV kV doc pm an (.ref cda) ct cc) ["self", "message", "place"] (spSup K D) := by
  refine ⟨fun vs H Q E h => ?_, fun A outer s H args us vs Q E hr e0 hb r hsp => ?_⟩
  · obtain ⟨_, _, _, _, _, _, rfl, _⟩ := h; rfl
  obtain ⟨a, C, q, m, l, c, rfl, Y, ha, hq, hQ⟩ := hsp
  cases r with
  | @cons _ u0 _ _ r0 r =>
  cases r with
  | @cons _ u1 _ _ r1 r =>
  cases r with
  | @cons _ u2 _ _ r2 r =>
  cases r
  have KX : K.In s.heap := e0.mod.kin.keeps fun b o e => (e0.bs b o e).1
  have lim : s.heap.NoLimit := e0.mod.nolimit.keeps fun b o e => (e0.bs b o e).1
  obtain ⟨cd, hC⟩ : ∃ cd, PySem.W.clsIn K C = some cd := by
    obtain ⟨nm, qn, N, bs, bm, sn, sub, ab, col, dd, k0, k1, k2, k3, k5, hCk, _⟩ := Y.oex.cls
    exact ⟨_, by unfold PySem.W.clsIn; rw [hCk] <;> rfl⟩
  refine ks_codeAny_call_defAt (fd := PySem.W.ksFn name qual params body sc dV kV doc pm an (.ref cda) ct cc) (body := body) (binds := [("self", u0), ("message", u1), ("place", u2)]) hr.depth (KX _ _ lk) rfl lim (PySem.W.codeRec_of KX hcode) rfl hb S.noc ?_ (fun h₀ hns kk => ?_) S.cor S.gnr S.knd
  · intro x hx
    simp only [List.mem_cons, List.not_mem_nil, or_false] at hx
    rcases hx with rfl | rfl | rfl
    · exact S.se
    · exact S.me
    · exact S.pl
  have I0 := inv_sup (tk := s.toks + 3) (cda := cda) (E := E) (f := f) (qual := qual) S hr.hd e0 r0 r1 r2 hcc hcl hns kk
  have fin : ∀ {pins : List (Addr × Obj)} {σ' : St} {H' : Hp} {s' : Shared} {v : V} {u : Value}, Inv (cxS P w K mg base qual sc f cda cc A outer s H E) pins σ' H' s' → RelV v u → Q v H' → CE outer P w H s Q u s' :=
    fun {pins σ' H' s' v u} J rv z => ⟨v, H', J.os, J.bare, J.base, J.hok, rv, z⟩
  show _root_.PySem.wpAt (model P w) (A.deeper (supEnv qual sc s.heap.objs.size f cda cc)) (.func body (supEnv qual sc s.heap.objs.size f cda cc)) (execs body (supEnv qual sc s.heap.objs.size f cda cc)) _ _ _
  refine ks_wpAt_mono (Q := fun fl s' => ∃ pins, SP (cxS P w K mg base qual sc f cda cc A outer s H E) pins { nx := fun _ H' => Q .non H', rt := Q } fl s') (E := (cxS P w K mg base qual sc f cda cc A outer s H E).xe) ?_ (fun fl s' hs => ?_) (fun e s' hs => hs)
  · generalize hB : body = bd
    rw [hbody] at hB
    subst hB
    refine ks_wpAt_execs_cons (ks_wpAt_Expr_any ?_ I0.quiet)
    refine ks_wpAt_MethodCall ?_ (hev _)
    refine sup_pre S Y lk rfl hp har hco hcd hvs hfile hcc hcl hD hsu htop I0 rfl ha fun so s2 I2 hso => ?_
    refine sup_meth Y hC hst I2 ha hso fun u s3 I3 => ?_
    have hA : PA (cxS P w K mg base qual sc f cda cc A outer s H E) [.Name "message" p3] (tCons (tVar 1) tNil) := pa_cons (pv 1 rfl (.inl S.me)) pa_nil
    refine PySem.W.kxs_callWith (i := "ValueError.__init__") (x := a) rfl (Calls.evalArgs_plain (thn (hA.run p4 _ s3 _ H (fun vs4 H4 => H4 = H ∧ vs4.length = 1) I3 ⟨_, rfl, rfl, rfl⟩) fun us4 s4 z => ?_))
    obtain ⟨vs4, H4, I4, rv, eH, hlen⟩ := z
    subst eH
    have hu := (I4.pin (u, PySem.W.kxs_mw "ValueError.__init__" a) (List.mem_append_right _ List.mem_cons_self)).1
    refine ⟨hu, ?_⟩
    refine mw_ok Y.oex I4 ha (by show us4.length ≤ sizeLine; rw [← Paired.length rv, hlen, sizeLine_eq]; omega) hu fun s5 I5 => ?_
    refine wpAt_of_wpAny (thn ((hrest A outer s _ E).run _ s5 _ _ _ I5 ?_) fun fl s' z => ⟨_, z⟩)
    refine ⟨_, rfl, q, [l, c], rfl, hq, rfl, l, [c], rfl, _, rfl, a, C, rfl, Y.oex, Y.fl, .inl ⟨ha, fun dx n1 n2 => ?_⟩⟩
    refine ⟨c, [], rfl, _, rfl, a, C, rfl, Y.oex, Y.fc, .inr ⟨dx, _, upd_same, by rw [upd_ne n2, upd_same], (by show 1 ≤ 900; omega), rfl, ?_⟩⟩
    exact hQ dx n1 n2
  · obtain ⟨pins, hs⟩ := hs
    cases fl with
    | ret u =>
      obtain ⟨v, σ', H', J, rv, z⟩ := hs
      exact fin J rv z
    | next =>
      obtain ⟨σ', H', J, z⟩ := hs
      exact fin (v := V.non) (u := Value.none) J rfl z
    | brk =>
      obtain ⟨_, _, _, z⟩ := hs
      exact False.elim z
    | cont =>
      obtain ⟨_, _, _, z⟩ := hs
      exact False.elim z

/-! ### a caught exception handed to a def -/
/-- a def that is called where the exception at p is handled; its promise speaks of p -/
structure FnE (P : Program) (w : World) (K : PySem.W.Frag) (mg : Str → Option Value) (base : Heap) (k : Nat) (f : Addr) (fd : FuncData) (ps : List Str) (sp : Addr × Obj → Sp) : Prop where
  len : ∀ p vs H Q E, sp p vs H Q E → vs.length = ps.length
  run : ∀ (A : Around) (outer : List Env) (s : Shared) (H : Hp) (args : Args) (us : List Value) (vs : List V) (Q : VK) (p : Addr × Obj), L2H.RoomH k A → L2H.PinOk outer H s p → Env0 P w K mg base A outer s H → BindsTo s fd args (ps.zip us) → Vals vs us → sp p vs H Q E0 →
    codeAny (model P w) A (.call (.ref f) args) (CR CX0 outer P w H s Q E0) s
theorem fnE {P : Program} {w : World} {K : PySem.W.Frag} {mg : Str → Option Value} {base : Heap} {x qual : Str} {st : Stmt} {f : Addr} {fd : FuncData} {N ps : List Str} {k : Nat} {sp : Addr × Obj → Sp} (F : Fun K x qual st f fd) (S : FnScope N ps (defScope st)) (len : ∀ p vs H Q E, sp p vs H Q E → vs.length = ps.length)
    (hbody : ∀ (cdv : Value) (A : Around) (outer : List Env) (s : Shared) (H : Hp) (vs : List V) (Q : VK) (p : Addr × Obj), L2H.RoomH k (A.deeper (PyProof.Rows.envOfC qual (defScope st) s.heap.objs.size f cdv)) → sp p vs H Q E0 →
      ∃ t, PSs (L2H.cxH CX0 P w K mg base N qual (defScope st) f cdv A outer s H E0 p) (defBody st) t ∧ t { nx := fun _ H' => Q .non H', rt := Q } (start N vs) H) : FnE P w K mg base (k + 1) f fd ps sp := by
  obtain ⟨oc, od, kV, doc, pm, an, cdv, ct, osl, rfl, lk, hcd⟩ := F.ex
  refine ⟨len, fun A outer s H args us vs Q p hr hpin e0 hb r hsp => ?_⟩
  have hsz := len _ _ _ _ _ hsp
  have hkeep : ∀ b o, base.get? b = some o → s.heap.get? b = some o := fun b o e => (e0.bs b o e).1
  have hin : K.In s.heap := e0.mod.kin.keeps hkeep
  refine codeAny_call_function hr.depth (hin _ _ lk) rfl S.co S.gen rfl (PySem.W.codeRec_of hin hcd) (hb _ _ _ _ ?_)
  refine wpAny_newFunctionEnv_cells S.kind (fun y hy => ?_) fun env he s1 xx => ?_
  · obtain ⟨n, v⟩ := y
    rcases S.par n (List.of_mem_zip hy).1 with z | z
    · exact .inl z
    · exact .inr ⟨z, PySem.W.cellsFrom_some _ _ _ (.inl z)⟩
  · subst he
    refine ⟨(e0.mod.nolimit.keeps hkeep).keeps xx.toInCall.keep, codeAny_func ?_⟩
    obtain ⟨t, ht, hq⟩ := hbody cdv A outer s H vs Q p (hr.deeper _) hsp
    have I := L2H.inv_startH (CX := CX0) (E := E0) S hpin e0 hsz r xx
    refine wpAny_mono (ht.run [] s1 (start N vs) H _ I hq) (fun fl s' hs => ?_) fun e s' hs => hs
    cases fl with
    | ret u =>
      obtain ⟨v, σ', H', J, rv, z⟩ := hs
      exact ⟨v, H', J.os, J.bare, J.base, J.hok, rv, z⟩
    | next =>
      obtain ⟨σ', H', J, z⟩ := hs
      exact ⟨V.non, H', J.os, J.bare, J.base, J.hok, rfl, z⟩
    | brk =>
      obtain ⟨_, _, _, z⟩ := hs
      exact z.elim
    | cont =>
      obtain ⟨_, _, _, z⟩ := hs
      exact z.elim
section
variable {X : Cx} {k : Nat} {f : Addr} {fd : FuncData} {ps : List Str} {sp : Addr × Obj → Sp} {x : Str} {q pos : Pos} {e : Expr} {es : List Expr} {t : TA}
def tCallE (sp : Sp) (t : TA) : TE := fun σ H Q => t σ H fun vs H1 => sp vs H1 Q E0
theorem pe_callE {p : Addr × Obj} (hp : p ∈ X.pn) (F : FnE X.prog X.w X.K X.mg X.base k f fd ps sp) (hr : L2H.RoomH k X.A) (hg : Gl X x) (hm : X.mg x = some (.ref f)) (hk : PySem.W.keepIn X.K (.ref f) = true) (hb : Binds X.K fd ps [])
    (ha : PA X (e :: es) t) (hdb : (x == ("__debug__" : Str)) = false := by decide) (he : starEach (e :: es) X.env = (false, eval e X.env) :: starEach es X.env := by rfl) (hpl : (backTo pos (starEach es X.env)).any (·.1) = false := by rfl) :
    PE X (.Call (.Name x q) (e :: es) [] pos) (tCallE (sp p) t) := by
  refine ⟨fun pins s σ H Q I h => wpAny_Call_Name_kw (ld_glob I hg hm ?_ hdb)⟩
  refine PySem.W.callWith_K (h₀ := X.base) I.ok.mod.kin hk (thn (ha.run pos pins s σ H _ I h) fun us s1 z => ?_) he hpl
  obtain ⟨vs, H1, I1, r, y⟩ := z
  refine ⟨I1.kIn, ?_⟩
  have hsz : us.length = ps.length := r.length.symm.trans (F.len _ _ _ _ _ y)
  have bnd := hb s1 us I1.kIn (by simpa using hsz)
  rw [List.append_nil] at bnd
  obtain ⟨g1, g2, g3, g4, g5⟩ := I1.pin p (List.mem_append_left _ hp)
  have pinned : L2H.PinOk X.stack H1 s1 p := ⟨g1, g2, fun z => (List.mem_cons.mp (I1.stkSub p.1 z)).elim g3 g4, g5⟩
  refine wpAny_call (codeAny_mono (F.run X.A X.stack s1 H1 ⟨us, []⟩ us vs Q p hr pinned I1.env0 bnd r y) fun r2 s2 hq => ?_)
  match r2, hq with
  | .error _, hq => exact hq.elim
  | .ok (.ret u), hq => exact I1.after hq
/-- isinstance(e, c), e a handled exception of the class at C with the dict at dd -/
def rIsX (K : PySem.W.Frag) (a C dd : Addr) : List V → Hp → VK → Prop := fun xs H Q => ∃ (c : V) (cv : Value) (b : Bool) (fs : List (Str × V)), xs = [.ref a, c] ∧ (∀ u, RelV c u → u = cv) ∧ H dd = some (.xd fs) ∧ PySem.W.kitOne K (.ref C) cv = some b ∧ Q (.bl b) H
theorem inst_x {pins : List (Addr × Obj)} {σ : St} {H : Hp} {s : Shared} {a C dd : Addr} {oe : Obj} {fs : List (Str × V)} (hp : (a, oe) ∈ X.pn) (hz : Zc (.ref C) (some dd) oe) (hf : ∃ vs, oe.data = .fields vs) (I : Inv X pins σ H s) (hd : H dd = some (.xd fs)) :
    ∃ mA od, s.heap.Ns1 dd mA ∧ (∀ g, RelO (fs.lookup g) (mA g)) ∧ s.heap.get? dd = some od ∧ PySem.W.InstAt s.heap a oe C (some od) ∧ ∀ n, PySem.W.lookIn n od = some (mA n) := by
  obtain ⟨mA, hns, hr⟩ := (show ObjOk X.prog X.w H s.heap dd (.xd fs) from I.hok dd _ hd)
  obtain ⟨od, ho, hl⟩ := lookIn_ns hns
  obtain ⟨vs, hv⟩ := hf
  exact ⟨mA, od, hns, hr, ho, ⟨(I.pin (a, oe) (List.mem_append_left _ hp)).1, hz.1, by unfold PySem.W.notCls; rw [hv] <;> rfl, by rw [hz.2]; exact ho⟩, hl⟩
theorem call_isX {a D dd : Addr} {oe : Obj} (C : ExcC X.K D) (hp : (a, oe) ∈ X.pn) (hz : Zc (.ref D) (some dd) oe) (hf : ∃ vs, oe.data = .fields vs) : CallR X (.builtin "isinstance") (rIsX X.K a D dd) := by
  intro pins s σ H xs us Q I r h
  obtain ⟨c, cv, b, fs, rfl, hcv, hd, hk, y⟩ := h
  obtain ⟨u1, u2, rfl, r1, r2⟩ := vals2 r
  obtain rfl : u1 = Value.ref a := r1
  obtain rfl := hcv _ r2
  obtain ⟨mA, od, _, _, _, J, _⟩ := inst_x hp hz hf I hd
  obtain ⟨cd, hcd, _⟩ := PySem.W.any_some C.hd
  exact PySem.W.kia_one (PySem.W.kitx_exc (by rw [hcd]; rfl) C.hg C.hk C.hs C.ha C.hn C.ht C.hm) I.kIn J hk (fun z => nomatch z) fun tk => ⟨.bl b, H, I.tok tk, rfl, y⟩
/-- e.f of it -/
theorem pe_xp {a C dd : Addr} {oe : Obj} {te : TE} {n : Str} (T : XfC X.K C) (hno : PySem.W.findIn X.K (.ref C) n = some none) (hp : (a, oe) ∈ X.pn) (hz : Zc (.ref C) (some dd) oe) (hf : ∃ vs, oe.data = .fields vs) (he : PE X e te) (hb : attributeBase e n X.env (eval e X.env) = eval e X.env := by rfl) :
    PE X (.Attribute e n pos) (tXf a (.ref C) (some dd) C n te) := by
  refine ⟨fun pins s σ H Q I h => attr_of hb (thn (he.run pins s σ H _ I h) fun u s1 hh => ?_)⟩
  obtain ⟨x, H1, I1, rx, ex, _, d2, fs, v, ed, ea, l, y⟩ := hh
  cases ed
  subst ex
  obtain rfl : u = Value.ref a := rx
  obtain ⟨mA, od, hns, hr, ho, J, hl⟩ := inst_x hp hz hf I1 ea
  obtain ⟨u, hu, ru⟩ := RelO.some_of (v := v) (o := mA n) (by rw [← l]; exact hr n)
  exact HandSPX.exc_get I1.kIn J T.ga T.gg T.exC (PySem.W.findObj_own T.hdC hno rfl (by rw [hl, hu])) (handed_of ru) ⟨v, H1, I1.tok _, ru, y⟩
end
/-! ### x in o, o an instance with an own __contains__ -/
def rInO (C : Addr) (sp : Sp) : R2 := fun x y H Q => ∃ (a dx : Addr) (fs : List (Str × V)), y = .ref a ∧ H a = some (.ins C dx fs) ∧ sp [y, x] H (fun v H' => ∃ b, v = .bl b ∧ Q (.bl b) H') E0
theorem op_inO {X : Cx} {C f : Addr} {k : Nat} {fd : FuncData} {ps : List Str} {sp : Sp} (c : Cls X.K C) (hm : Meth X.K C "__contains__" f) (F : FnOk X.prog X.w X.K X.mg X.base CX0 k f fd ps sp) (hr : Room k X.A) (hb : Binds X.K fd ps []) : OpR X (compareOp .In) (rInO C sp) := by
  intro pins s σ H x y v u Q I rx ry h
  obtain ⟨a, dx, fs, rfl, ha, hs⟩ := h
  obtain rfl : u = Value.ref a := ry
  obtain ⟨mA, O, _, _, _, _⟩ := ins_get I.hok ha
  obtain ⟨od, J, _⟩ := O.look
  obtain ⟨m, fr⟩ := I.fr
  refine PySem.W.in_K fr I.ok.mod.kin J hm.at_ hm.fn ?_
  refine wpAny_mono (run_fn (us := [.ref a, v]) (vs := [.ref a, x]) (dvs := []) F hr hb .nil pass0 I (.cons rfl (.cons rx .nil)) hs) (fun r s2 z => ?_) fun _ _ z => z
  obtain ⟨w', H', I2, rv, b, rfl, y⟩ := z
  cases rv
  exact wpAny_truthy_bool ⟨.bl b, H', I2, rfl, y⟩
/-! ### repr of the same value twice, whatever stands around -/
def atG (A : Around) (g : List Code) : Around := { A with guards := some g }
theorem wp_guards {α : Type} {M : Model} {A : Around} {t : Sem α} {Q : α → Shared → Prop} {E : Value → Shared → Prop} {s : Shared} (h : ∀ g, wpAny M (atG A g) t Q E s) : wpAny M A t Q E s := fun Γ p hΓ =>
  h (Γ.code.guards ++ guardsOf Γ.below) Γ p ⟨hΓ.1, hΓ.2.1, hΓ.2.2.1, fun _ e => Option.some.inj e, hΓ.2.2.2.2⟩
def cxG (X : Cx) (g : List Code) : Cx := { X with A := atG X.A g }
theorem okG {X : Cx} (g : List Code) (o : X.Ok) : (cxG X g).Ok := ⟨o.mod, o.kind, o.glob, o.blt, o.above, o.inj, o.has, o.cab, o.hd, o.frames, o.stk, o.exf, o.bs, o.bsz, o.noex, o.exfs, o.funs, o.frf⟩
theorem Inv.toG {X : Cx} {pins : List (Addr × Obj)} {σ : St} {H : Hp} {s : Shared} (g : List Code) (I : Inv X pins σ H s) : Inv (cxG X g) pins σ H s := ⟨okG g I.ok, I.os, I.bare, I.base, I.loc, I.cell, I.free, I.freeC, I.pin, I.hok, I.len⟩
theorem Inv.ofG {X : Cx} {pins : List (Addr × Obj)} {σ : St} {H : Hp} {s : Shared} {g : List Code} (o : X.Ok) (I : Inv (cxG X g) pins σ H s) : Inv X pins σ H s := ⟨o, I.os, I.bare, I.base, I.loc, I.cell, I.free, I.freeC, I.pin, I.hok, I.len⟩
theorem pe_guards {X : Cx} {e : Expr} {t : TE} (h : ∀ g, PE (cxG X g) e t) : PE X e t := by
  refine ⟨fun pins s σ H Q I hq => wp_guards fun g => thn ((h g).run pins s σ H Q (Inv.toG g I) hq) fun u s2 z => ?_⟩
  obtain ⟨v, H', I2, r, y⟩ := z
  exact ⟨v, H', Inv.ofG I.ok I2, r, y⟩
def hitG (g : List Code) (a : Addr) : Bool := g.any fun c => tupGuardF (.ref a) (c, default)
section
variable {prog : Program} {w : World} {A : Around} {g : List Code} {h₀ : Heap} {d : Nat} {a : Addr} {o : Obj} {items : Array Value} {n : Nat} {ts : List Str}
theorem own_rep (ha : h₀.get? a = some o) (hd : o.data = .seq items n) (hT : ReprAllK prog w [] h₀ d items.toList ts) {s : Shared} {R : Result → Shared → Prop}
    (hg : A.guards = some g) (hu : A.units + (d + 1) < cLine) (hk0 : ∀ b o, h₀.get? b = some o → s.heap.get? b = some o)
    (hR : ∀ h' u tk, (∀ b o, s.heap.get? b = some o → h'.get? b = some o) → R (.ok (.ret (.str (if hitG g a then "(...)" else tupleText ts) u))) { s with heap := h', toks := tk }) (hsz : (tupleText ts).length ≤ sizeLine) :
    wpOwn (model prog w) A (.builtin "tuple.__repr__" ⟨[.ref a], []⟩) (Builtin.tupleReprAt 0 ⟨[.ref a], []⟩) (fun fin s' => match fin with | .done f => R (.ok f) s' | .again c' => c'.quiet = true ∧ codeAny (model prog w) A c' R s') (fun e s' => R (.error e) s') s := by
  have hlen : ts.length = items.size := by simpa using hT.length_eq
  have hp := piled_le_tupleText ts
  rw [tuple_repr_tree, tupleReprUnderWay_eq]
  refine wpOwn_bind (wpOwn_stackTailAny hg (tupGuardF_off _) (tupGuardF_pos _) ?_)
  cases hh : hitG g a with
  | true =>
    rw [show (g.any fun c => tupGuardF (.ref a) (c, default)) = true from hh]
    refine wpOwn_of_wpAny ?_
    show wpAny _ _ (do rule "tuple.repr.in-itself"; retStr "(...)") _ _ s
    refine wpAny_bind (wpAny_rule ?_)
    have h1 := hR s.heap s.toks (s.toks + 1) fun _ _ e => e
    rw [hh] at h1
    exact wpAny_bind (wpAny_mkStr (wpAny_pure h1) (by decide +kernel))
  | false =>
    rw [show (g.any fun c => tupGuardF (.ref a) (c, default)) = false from hh]
    refine wpOwn_of_wpAny ?_
    show wpAny _ _ (tupleReprRest 0 (.ref a)) _ _ s
    unfold tupleReprRest Builtin.Tuple.tupleItemsOf
    refine wpAny_bind (wpAny_bind (wpAny_seqItems (hk0 _ _ ha) hd (wpAny_pure ?_)))
    rw [← Array.forIn_toList]
    refine wpAny_bind (wpAny_tupFoldK (guards_under_guard (isGuard_tuple_repr _) hg) (fun b hb => by cases hb) (by rw [units_under_tuple_repr]; omega) _ ts _ _ _ _ hT (by omega) hk0 fun h' tk hkp => ?_)
    refine wpAny_bind (wpAny_mkStr (wpAny_pure ?_) (by simpa [tupleText, hlen] using hsz))
    have h1 := hR h' tk (tk + 1) hkp
    rw [hh] at h1
    simpa [tupleText, hlen] using h1
end
/-- the texts of a tuple's items, ints and texts alone -/
inductive FlatR : List V → List Str → Prop where
  | nil : FlatR [] []
  | int {i : Int} {xs : List V} {ts : List Str} (h : i.natAbs.log2 < 1920) (r : FlatR xs ts) : FlatR (.int i :: xs) (toString i :: ts)
  | str {z : Str} {xs : List V} {ts : List Str} (h : (reprText z).length ≤ sizeLine) (r : FlatR xs ts) : FlatR (.str z :: xs) (reprText z :: ts)
theorem FlatR.all {prog : Program} {w : World} {h₀ : Heap} {d : Nat} : ∀ {xs : List V} {ts : List Str} {us : List Value}, FlatR xs ts → Vals xs us → ReprAllK prog w [] h₀ d us ts
  | _, _, _, .nil, r => by cases r; exact .nil
  | _, _, _, .int h f, r => by
    cases r with
    | cons r1 r2 =>
      obtain ⟨t, rfl⟩ := (show ∃ t, _ = Value.int _ t from r1)
      exact .cons (ReprK.of_is (ReprIs.int t h) _ _ _) (f.all r2)
  | _, _, _, .str h f, r => by
    cases r with
    | cons r1 r2 =>
      obtain ⟨t, rfl⟩ := (show ∃ t, _ = Value.str _ t from r1)
      exact .cons (ReprK.of_is (ReprIs.str _ t h) _ _ _) (f.all r2)
/-- the text of a value, where g runs around -/
inductive RepOf (K : PySem.W.Frag) (g : List Code) (H : Hp) : V → Str → Prop where
  | int {i : Int} (h : i.natAbs.log2 < 1920) : RepOf K g H (.int i) (toString i)
  | str {z : Str} (h : (reprText z).length ≤ sizeLine) : RepOf K g H (.str z) (reprText z)
  | bl (b : Bool) : RepOf K g H (.bl b) (if b then "True" else "False")
  | non : RepOf K g H .non "None"
  | tup {p : Addr} {xs : List V} {ts : List Str} (h : H p = some (.tup xs)) (f : FlatR xs ts) (hz : (tupleText ts).length ≤ sizeLine) : RepOf K g H (.ref p) (if hitG g p then "(...)" else tupleText ts)
def rRepr (K : PySem.W.Frag) (g : List Code) : List V → Hp → VK → Prop := fun xs H Q => ∃ x z, xs = [x] ∧ RepOf K g H x z ∧ Q (.str z) H
theorem call_repr {X : Cx} {g : List Code} (hg : X.A.guards = some g) (hu : X.A.units + 64 < cLine) : CallR X (.builtin "repr") (rRepr X.K g) := by
  intro pins s σ H xs us Q I r h
  obtain ⟨x, z, rfl, hx, q⟩ := h
  obtain ⟨u, rfl, ru⟩ := vals1 r
  cases hx with
  | int h =>
    obtain ⟨t, rfl⟩ := (show ∃ t, u = Value.int _ t from ru)
    exact PySem.P.repr_of_int h ⟨V.str _, H, I.tok _, ⟨_, rfl⟩, q⟩
  | str h =>
    obtain ⟨t, rfl⟩ := (show ∃ t, u = Value.str _ t from ru)
    exact PySem.P.repr_of_str ⟨V.str _, H, I.tok _, ⟨_, rfl⟩, q⟩ h
  | bl b =>
    obtain rfl := (show u = Value.bool b from ru)
    exact PySem.P.repr_of_bool ⟨V.str _, H, I.tok _, ⟨_, rfl⟩, q⟩
  | non =>
    obtain rfl := (show u = Value.none from ru)
    exact PySem.P.repr_of_none ⟨V.str _, H, I.tok _, ⟨_, rfl⟩, q⟩
  | @tup p xs ts hp f hz =>
    obtain rfl := (show u = Value.ref p from ru)
    obtain ⟨_, its, rv, o, h1, h2, n, h3⟩ := (show ObjOk X.prog X.w H s.heap p (.tup xs) from I.hok p _ hp)
    have hT : s.TypeIs (.ref p) "tuple" := ⟨o, h1, h2⟩
    refine call_repr_slot (by omega) hT F.slot_tuple_repr ?_
    refine wpAny_call (codeAny_call_builtin_own (Code.quiet_builtin _ (by decide +kernel)) F.entry_tuple_repr (F.slot_tuple_repr.check _ _ _ _ _ _ _ _ hT (F.args_tuple_repr_1 _) ?_))
    refine own_rep (d := 0) (ts := ts) (R := callEnd _ _) h1 h3 (f.all (by simpa using rv)) (show X.A.in1.guards = some g from hg) (by show X.A.units + 1 + (0 + 1) < cLine; omega) (fun _ _ e => e) (fun h' u tk hk => ?_) hz
    exact ⟨_, _, rfl, V.str _, H, I.kept (t' := tk) hk, ⟨_, rfl⟩, q⟩
/-! ### one sign, some times -/
theorem rep_size (c : Nat) : ∀ (n : Nat) (acc : Array Nat), ((List.replicate n #[c]).foldl (· ++ ·) acc).size = acc.size + n
  | 0, acc => rfl
  | n + 1, acc => by
    rw [List.replicate_succ, List.foldl_cons, rep_size c n]
    simp
    omega
def rRepS : R2 := fun x y H Q => ∃ (c : Nat) (n : Int), x = .str ⟨#[c]⟩ ∧ y = .int n ∧ -1000 ≤ n ∧ n ≤ 1000 ∧ ∀ z : Str, (z.length : Int) ≤ max n 0 → Q (.str z) H
theorem op_repS {X : Cx} : OpR X (binaryOp .Mult) rRepS := by
  intro pins s σ H x y v u Q I rx ry h
  obtain ⟨c, n, rfl, rfl, n0, n1, q⟩ := h
  obtain ⟨t, rfl⟩ := (show ∃ t, v = Value.str _ t from rx)
  obtain ⟨t', rfl⟩ := (show ∃ t, u = Value.int _ t from ry)
  have l1 : (⟨#[c]⟩ : Str).length = 1 := rfl
  have hsz := sizeLine_eq
  refine PySem.P.mul_str (by have h1 : ¬ n < -(2 ^ 63 : Int) := by omega
                             have h2 : ¬ n ≥ 2 ^ 63 := by omega
                             rw [decide_eq_false h1, decide_eq_false h2]; rfl) (fun h1 _ => ?_) (fun h1 _ => ?_) ?_
  · rw [l1]
    have : (1 : Int) ≤ (2 ^ 63 - 1) / n := by
      apply Int.le_ediv_of_mul_le (by omega)
      omega
    omega
  · rw [l1]
    show decide (1 * n.toNat > sizeLine) = false
    rw [hsz]
    exact decide_eq_false (by omega)
  · by_cases h1 : n < 1
    · rw [if_pos h1]
      exact ⟨by decide, .str _, H, I.tok _, ⟨_, rfl⟩, q _ (by show (0 : Int) ≤ _; omega)⟩
    · rw [if_neg h1]
      by_cases h2 : n = 1
      · subst h2
        rw [if_pos (by simp)]
        exact ⟨.str _, H, I, ⟨_, rfl⟩, q _ (by rw [l1]; decide)⟩
      · have h3 : (n == 1 || (⟨#[c]⟩ : Str).length == 0) = false := by
          rw [l1]
          simp [h2]
        rw [h3, if_neg Bool.false_ne_true]
        have hl : (⟨(List.replicate n.toNat #[c]).foldl (· ++ ·) #[]⟩ : Str).length = n.toNat := by
          show ((List.replicate n.toNat #[c]).foldl (· ++ ·) #[]).size = _
          rw [rep_size]
          simp
        exact ⟨by show Str.length _ ≤ sizeLine; rw [hl, hsz]; omega, .str _, H, I.tok _, ⟨_, rfl⟩, q _ (by rw [hl]; omega)⟩
theorem pe_imp {X : Cx} {e : Expr} {t t' : TE} (h : PE X e t) (hi : ∀ σ H Q, t' σ H Q → t σ H Q) : PE X e t' := ⟨fun pins s σ H Q I q => h.run pins s σ H Q I (hi σ H Q q)⟩
/-! ### in a suite: the class and the dict of what is handled stand in the reading -/
def liftX (spX : Addr → Addr → Addr → Sp) : Addr × Obj → Sp := fun p vs H Q E => ∃ D dd : Addr, Zc (.ref D) (some dd) p.2 ∧ (∃ us, p.2.data = .fields us) ∧ spX p.1 D dd vs H Q E
def tCallX (a : Addr) (cls : Value) (d : Option Addr) (spX : Addr → Addr → Addr → Sp) (t : TA) : TE := fun σ H Q => t σ H fun vs H1 => ∃ D dd : Addr, cls = .ref D ∧ d = some dd ∧ spX a D dd vs H1 Q E0
def rIsXx (K : PySem.W.Frag) (a : Addr) (cls : Value) (d : Option Addr) : List V → Hp → VK → Prop := fun xs H Q => ∃ D dd, cls = .ref D ∧ d = some dd ∧ ExcC K D ∧ rIsX K a D dd xs H Q
theorem roomH_mark {k : Nat} {A : Around} {h : Option Value} (r : Room k A) : L2H.RoomH k (A.mark h) := ⟨r.dp, r.un⟩
section
variable {X : Cx} {k : Nat} {f : Addr} {fd : FuncData} {ps : List Str} {x : Str} {q pos : Pos} {e : Expr} {es : List Expr} {t : TA} {a : Addr} {oe : Obj} {cls : Value} {d : Option Addr} {pn : List (Addr × Obj)} {spX : Addr → Addr → Addr → Sp}
theorem pe_callX (hz : Zc cls d oe) (hf : ∃ us, oe.data = .fields us) (F : FnE X.prog X.w X.K X.mg X.base k f fd ps (liftX spX)) (hr : Room k X.A) (hg : Gl X x) (hm : X.mg x = some (.ref f)) (hk : PySem.W.keepIn X.K (.ref f) = true) (hb : Binds X.K fd ps [])
    (ha : PA (X.suite a ((a, oe) :: pn)) (e :: es) t) (hdb : (x == ("__debug__" : Str)) = false := by decide) (he : starEach (e :: es) X.env = (false, eval e X.env) :: starEach es X.env := by rfl) (hpl : (backTo pos (starEach es X.env)).any (·.1) = false := by rfl) :
    PE (X.suite a ((a, oe) :: pn)) (.Call (.Name x q) (e :: es) [] pos) (tCallX a cls d spX t) := by
  refine ⟨fun pins s σ H Q I h => wpAny_Call_Name_kw (ld_glob I hg hm ?_ hdb)⟩
  refine PySem.W.callWith_K (h₀ := X.base) I.ok.mod.kin hk (thn (ha.run pos pins s σ H _ I h) fun us s1 z => ?_) he hpl
  obtain ⟨vs, H1, I1, r, D, dd, rfl, rfl, y⟩ := z
  refine ⟨I1.kIn, ?_⟩
  have y2 : liftX spX (a, oe) vs H1 Q E0 := ⟨D, dd, hz, hf, y⟩
  have hsz : us.length = ps.length := r.length.symm.trans (F.len _ _ _ _ _ y2)
  have bnd := hb s1 us I1.kIn (by simpa using hsz)
  rw [List.append_nil] at bnd
  obtain ⟨g1, g2, g3, g4, g5⟩ := I1.pin (a, oe) (List.mem_append_left _ List.mem_cons_self)
  have pinned : L2H.PinOk (X.suite a ((a, oe) :: pn)).stack H1 s1 (a, oe) := ⟨g1, g2, fun z => (List.mem_cons.mp (I1.stkSub a z)).elim g3 g4, g5⟩
  refine wpAny_call (codeAny_mono (F.run (X.suite a ((a, oe) :: pn)).A X.stack s1 H1 ⟨us, []⟩ us vs Q (a, oe) (roomH_mark hr) pinned I1.env0 bnd r y2) fun r2 s2 hq => ?_)
  match r2, hq with
  | .error _, hq => exact hq.elim
  | .ok (.ret u), hq => exact I1.after hq
theorem call_isXx (hz : Zc cls d oe) (hf : ∃ us, oe.data = .fields us) : CallR (X.suite a ((a, oe) :: pn)) (.builtin "isinstance") (rIsXx X.K a cls d) := by
  intro pins s σ H xs us Q I r h
  obtain ⟨D, dd, rfl, rfl, C, h⟩ := h
  exact call_isX (X := X.suite a ((a, oe) :: pn)) C List.mem_cons_self hz hf pins s σ H xs us Q I r h
end
def rLen (K : PySem.W.Frag) : List V → Hp → VK → Prop := fun xs H Q => ∃ p ys, xs = [V.ref p] ∧ (SqL K H p ys ∨ SqT K H p ys) ∧ Q (.int (ys.length : Int)) H
theorem call_lenK {X : Cx} {K : PySem.W.Frag} (h : X.K = K) : CallR X (.builtin "len") (rLen K) := by
  subst h
  exact call_len_seq

/-! ### enumerate(list, start=k) -/
section
variable {M : Model} {A : Around} {E : Value → Shared → Prop} {s : Shared}
theorem cw_type_kw {pos : Pos} {T : String} {args : List (Bool × Sem Value)} {keywords : List (Option Str × Sem Value)} {Q : Value → Shared → Prop}
    (hplain : args.any (·.1) = false) (hkw : keywords.any (·.1.isNone) = false)
    (h : wpAny M A (evalArgs (.type T) true args keywords) (fun a s₁ => wpAny M A (call (.type T) a.pos a.kw) Q E s₁) E s) : wpAny M A (callWith pos (.type T) [] args keywords) Q E s := by
  unfold callWith
  refine wpAny_bind (wpAny_holding (wpAny_mono h (fun a s₁ h₁ => wpAny_bind (wpAny_standAt ?_)) fun _ _ x => x))
  simp only [hplain, hkw, Bool.or_false]
  refine wpAny_bind (wpAny_pure ?_)
  exact wpAny_bind (wpAny_mono h₁ (fun r s₂ hr => wpAny_bind (wpAny_holding (wpAny_point (wpAny_pure hr)))) fun _ _ x => x)
theorem cw_type1_kw {env : Env} {pos : Pos} {T : String} {e : Expr} {rest : List Expr} {kws : List Keyword} {Q : Value → Shared → Prop}
    (h : wpAny M A (spliced (backTo pos (starEach (e :: rest) env))) (fun vs s₁ => wpAny M A (evalAll ((backToKw pos (keywordEach kws env)).map (·.2)))
      (fun kvs s₂ => wpAny M A (call (.type T) vs (((backToKw pos (keywordEach kws env)).filterMap (·.1)).zip kvs)) Q E s₂) E s₁) E s)
    (he : starEach (e :: rest) env = (false, eval e env) :: starEach rest env := by rfl)
    (hplain : (backTo pos (starEach rest env)).any (·.1) = false := by rfl)
    (hall : (backToKw pos (keywordEach kws env)).all (·.1.isSome) = true := by rfl)
    (hkw : (backToKw pos (keywordEach kws env)).any (·.1.isNone) = false := by rfl) :
    wpAny M A (callWith pos (.type T) [] (backTo pos (starEach (e :: rest) env)) (backToKw pos (keywordEach kws env))) Q E s := by
  rw [he] at h ⊢
  refine cw_type_kw (by show (false || (backTo pos (starEach rest env)).any (·.1)) = false; rw [hplain]; rfl) hkw ?_
  exact PyProof.Rows.evalArgs_kwB hall h
end
def IteS (K : PySem.W.Frag) (a : Addr) (k0 : Int) : It :=
  ⟨fun i H => ∃ (xs : List V) (x : V), SqL K H a xs ∧ xs[i]? = some x, fun i H v H' => ∃ T x, v = .ref T ∧ H T = none ∧ H' = upd H T (.tup [.int (k0 + (i : Nat)), x]) ∧ ∀ xs, SqL K H a xs → xs[i]? = some x, fun i H => ∃ xs : List V, SqL K H a xs ∧ xs.length = i⟩
theorem li_ne {h : Heap} {it a : Addr} {i : Nat} {items : Array Value} (hit : h.IsListIter it a i) (p : h.IsList a items) : a ≠ it := by
  rintro rfl
  obtain ⟨o, ho, hc, _⟩ := hit
  obtain ⟨o2, ho2, hc2, _⟩ := p
  rw [ho] at ho2
  cases ho2
  rw [hc] at hc2
  exact absurd hc2 (by decide)
theorem en_ne {h : Heap} {e it a : Addr} {c : Int} {old : Value} {items : Array Value} (he : IsEnum h e it c old) (p : h.IsList a items) : e ≠ a := by
  rintro rfl
  obtain ⟨o2, ho2, hc2, _⟩ := p
  have he' : h.get? e = some _ := he
  rw [he'] at ho2
  cases ho2
  have hc3 : Value.type "enumerate" = Value.type "list" := hc2
  exact absurd hc3 (by decide)
theorem turn_enumS {P : Program} {w : World} {K : PySem.W.Frag} {elts : List Expr} {kk : Nat} {tpos : Pos} (a e it : Addr) (k0 : Int) :
    Turn P w K (.Tuple elts kk tpos) (IteS K a k0) [e, it] e (fun i h => (∃ old, IsEnum h e it (k0 + (i : Nat)) old) ∧ h.IsListIter it a i ∧ e ≠ it) where
  mem := by simp
  obj := fun i h st b hb => by
    obtain ⟨⟨old, he⟩, ⟨o, ho, hc, hd⟩, _⟩ := st
    have e' : b = e ∨ b = it := by simpa using hb
    rcases e' with z | z
    · rw [z]; exact ⟨_, he, fun v q => nomatch q⟩
    · rw [z]; exact ⟨o, ho, fun v q => by rw [hd] at q; cases q⟩
  keep := fun i h h' st k => let ⟨⟨old, he⟩, hi, hne⟩ := st; ⟨⟨old, k e (by simp) _ he⟩, hi.at fun o q => k it (by simp) o q, hne⟩
  item := by
    intro X hP hw hK hc i pins s σ H E I hf st hg
    subst hP hw hK
    obtain ⟨⟨old, he⟩, hit, hne⟩ := st
    obtain ⟨xs, x, hq, hx⟩ := hg
    obtain ⟨its, rv, p, hz⟩ := I.list hq
    obtain ⟨u, hu, ru⟩ := rv.get hx
    have hel : e < s.heap.objs.size := Heap.lt_size he
    have hil : it < s.heap.objs.size := by obtain ⟨_, q, _⟩ := hit; exact Heap.lt_size q
    have hlt : i < its.toArray.size := by
      rw [List.size_toArray]
      exact (List.getElem?_eq_some_iff.mp hu).1
    have hea : e ∉ [it, a] := by
      have h1 := en_ne he p.isList
      simp [hne, h1]
    refine wpAny_pyNext_enum_itemC (Draws.list (A := X.A.in1) (I.ok.hd hc) it a (li_ne hit p.isList) its.toArray) he ⟨hit, p.isList⟩ hlt hne hea fun x' h' tk hx' ho st' hT hsz hk => ?_
    obtain rfl : x' = u := by
      have e1 : its[i]? = some x' := by simpa using hx'
      rw [hu] at e1
      exact (Option.some.inj e1).symm
    refine ⟨_, rfl, wpAny_letOwnedTupleGo_enum (s := { s with heap := h', toks := tk + 1 }) ho fun h'' he' sb => ?_⟩
    have hT2 : h''.get? s.heap.objs.size = some { cls := .type "tuple", data := .seq #[.int (k0 + (i : Nat)) tk, x'] } := (sb.2 _ (Nat.ne_of_gt hel)).trans hT
    have new : ObjOk X.prog X.w (upd H s.heap.objs.size (.tup [.int (k0 + (i : Nat)), x])) h'' s.heap.objs.size (.tup [.int (k0 + (i : Nat)), x]) :=
      ⟨by show 2 ≤ sizeLine; decide, [.int (k0 + (i : Nat)) tk, x'], .cons ⟨_, rfl⟩ (.cons ru .nil), ⟨_, hT2, rfl, _, rfl⟩⟩
    have I1 : Inv X pins σ (upd H s.heap.objs.size (.tup [.int (k0 + (i : Nat)), x])) { s with heap := h'', toks := tk + 1 } :=
      I.turnedNew (ch := [e, it]) (fun b ob hb q => (sb.2 b (fun z => hb (by simp [z]))).trans (hk b ob (fun z => hb (by simp [z])) (fun z => hb (by simp [z])) q)) hf (Nat.le_refl _) new
    refine ⟨.ref s.heap.objs.size, _, I1, rfl, ⟨_, x, rfl, I.hok.fresh (Nat.le_refl _), rfl, fun ys hy => by rw [I.list_inj hy hq]; exact hx⟩, ⟨⟨x', ?_⟩, st'.1.at fun o q => (sb.2 it (Ne.symm hne)).trans q, hne⟩, fun b hb => ?_⟩
    · have e1 : k0 + ((i + 1 : Nat) : Int) = k0 + (i : Int) + 1 := by omega
      rw [e1]; exact he'
    · have hb' : b < s.heap.objs.size := by
        have e' : b = e ∨ b = it := by simpa using hb
        rcases e' with z | z
        · rw [z]; exact hel
        · rw [z]; exact hil
      rw [upd_ne (Nat.ne_of_lt hb')]
      exact (hf b hb).1
  done := by
    intro X hP hw hK hc i pins s σ H E I hf st hg
    subst hP hw hK
    obtain ⟨⟨old, he⟩, hit, hne⟩ := st
    obtain ⟨xs, hq, hx⟩ := hg
    obtain ⟨its, rv, p, hz⟩ := I.list hq
    obtain ⟨f0, f1, f2, f3, f4, f5⟩ := hf it (by simp)
    have hl := rv.length
    have hi : i = its.toArray.size := by rw [List.size_toArray]; omega
    subst hi
    exact wpAny_pyNext_enum_endD (Draws.list (A := X.A.in1) (I.ok.hd hc) it a (li_ne hit p.isList) its.toArray) he ⟨hit, p.isList⟩ fun h' eb => ⟨rfl, I.turned (t' := s.toks) (fun b o hb q => eb b o hb q) f0 f1 f3 f4 f5⟩
  self := fun A i s Q E st h => let ⟨⟨_, he⟩, _⟩ := st; wpAny_pyIter_enum he h
def iEnumS (K : PySem.W.Frag) (k0 : Int) (ta : TA) : TI := fun σ H R => ta σ H fun vs H1 => ∃ a xs, vs = [.ref a] ∧ SqL K H1 a xs ∧ R (IteS K a k0) H1
theorem pi_enumS {X : Cx} {e : Expr} {ta : TA} {p p2 p3 pos tpos : Pos} {elts : List Expr} {kk j : Nat} {k0 : Int} (hg : Gl X "enumerate") (hm : X.mg "enumerate" = none) (h0 : -(2 ^ 63) ≤ k0) (h1 : k0 < 2 ^ 63) (ha : PA X [e] ta) (hs : starEach [e] X.env = [(false, eval e X.env)] := by rfl) :
    PI X (.Tuple elts kk tpos) (.Call (.Name "enumerate" p) [e] [⟨some "start", .Constant (.int k0) j p2, p3⟩] pos) (iEnumS X.K k0 ta) := by
  refine ⟨fun pins s σ H R I h => ?_⟩
  refine wpAny_Call_Name_kw (ld_blt I hg hm (by decide +kernel : bootBuiltins ("enumerate" : Str) = some (.type "enumerate")) ?_)
  refine cw_type1_kw (thn (ha.run pos pins s σ H _ I h) fun us s1 ⟨vs, H1, I1, r1, a, xs, ex, hq, q⟩ => ?_) hs rfl rfl rfl
  subst ex
  obtain ⟨u, rfl, ru⟩ := r1.one
  cases ru
  refine PyProof.Rows.kws_cons (thn ((pe_int (X := X) (i := k0) (j := j) (pos := p2)).run pins s1 σ H1 (fun y H2 => y = .int k0 ∧ H2 = H1) I1 ⟨rfl, rfl⟩) fun w s2 ⟨y, H2, I2, r2, e1, e2⟩ => ?_)
  subst e1; subst e2
  obtain ⟨t, rfl⟩ := r2
  refine PyProof.Rows.kws_nil ?_
  obtain ⟨its, rv, p', hz⟩ := I2.list hq
  refine enum_begins_start (begins_list a its.toArray) p'.isList h0 h1 fun h' he hit hsz hk => wpAny_pyIter_enum he ?_
  have I3 : Inv X pins σ H2 { s2 with heap := h' } := I2.kept (t' := s2.toks) hk
  refine ⟨s2.heap.objs.size + 1, [s2.heap.objs.size + 1, s2.heap.objs.size], _, _, H2, rfl, I3, turn_enumS a (s2.heap.objs.size + 1) s2.heap.objs.size k0, ⟨⟨.none, ?_⟩, ⟨_, hit, rfl, rfl⟩, Nat.succ_ne_self _⟩, fun b hb => ?_, q⟩
  · have e1 : k0 + ((0 : Nat) : Int) = k0 := by omega
    rw [e1]; exact he
  · have e' : b = s2.heap.objs.size + 1 ∨ b = s2.heap.objs.size := by simpa using hb
    have hle : s2.heap.objs.size ≤ b := by
      rcases e' with z | z
      · rw [z]; exact Nat.le_add_right _ _
      · rw [z]; exact Nat.le_refl _
    exact I2.fpOk hle (I2.hok.fresh hle)
theorem for_enumS {K : PySem.W.Frag} {a : Addr} {xs : List V} {k0 : Int} {g : TG} {tb : TS} {D : Ends} {σ : St} {H : Hp} (Pv : Nat → St → Hp → Prop) (h0 : Pv 0 σ H) (hl : ∀ i σ H, i ≤ xs.length → Pv i σ H → SqL K H a xs)
    (hs : ∀ i x σ H T, xs[i]? = some x → Pv i σ H → H T = none → g (.ref T) σ (upd H T (.tup [.int (k0 + (i : Nat)), x])) fun σ2 H2 => tb { D with nx := Pv (i + 1), ct := Pv (i + 1), bk := D.nx } σ2 H2) (hd : ∀ σ H, Pv xs.length σ H → D.nx σ H) :
    ∃ W : Nat → Nat → St → Hp → Prop, (∃ m, W 0 m σ H) ∧ ∀ i m σ H, W i m σ H →
      ((IteS K a k0).stop i H ∧ D.nx σ H) ∨ ((IteS K a k0).go i H ∧ ∃ N : St → Hp → Prop, (∀ σ' H', N σ' H' → ∃ m', m' < m ∧ W (i + 1) m' σ' H') ∧ ∀ x H', (IteS K a k0).yld i H x H' → g x σ H' fun σ2 H2 => tb { D with nx := N, ct := N, bk := D.nx } σ2 H2) := by
  refine ⟨fun i m σ H => m = xs.length - i ∧ i ≤ xs.length ∧ Pv i σ H, ⟨xs.length, by simp, Nat.zero_le _, h0⟩, ?_⟩
  rintro i m σ H ⟨rfl, hi, p⟩
  have q := hl i σ H hi p
  by_cases hlt : i < xs.length
  · refine .inr ⟨⟨xs, xs[i], q, by simp [hlt]⟩, Pv (i + 1), fun σ' H' p' => ⟨xs.length - (i + 1), by omega, rfl, hlt, p'⟩, fun x H' y => ?_⟩
    obtain ⟨T, x', e1, nT, e2, y⟩ := y
    subst e1; subst e2
    exact hs i x' σ H T (y xs q) p nT
  · have e : i = xs.length := by omega
    subst e
    exact .inl ⟨⟨xs, q, rfl⟩, hd σ H p⟩

def top (i : Nat) : Stmt := PySem.Challenge.pw_windowada_k00_tokens_with_places.main.body.getD i (.Pass ⟨0, 0, 0, 0⟩)
abbrev s_scan : Stmt := top 16
abbrev s_scan_row : Stmt := top 17
abbrev s_token_at : Stmt := top 18
abbrev s_word_at : Stmt := top 19
abbrev s_number_at : Stmt := top 20
abbrev s_characters_at : Stmt := top 21
abbrev s_law_mixed : Stmt := top 23
abbrev s_law_state : Stmt := top 24
abbrev s_law_draw : Stmt := top 25
abbrev s_law_reserved : Stmt := top 26
abbrev s_law_char : Stmt := top 27
abbrev s_law_name : Stmt := top 28
abbrev s_law_number : Stmt := top 29
abbrev s_law_digits : Stmt := top 30
abbrev s_law_gap : Stmt := top 31
abbrev s_law_layout : Stmt := top 32
abbrev s_law_same : Stmt := top 33
abbrev s_law_token : Stmt := top 34
abbrev s_law : Stmt := top 35
theorem sc_scan : FnScope ["text", "tokens", "rows", "line", "row"] ["text"] (defScope s_scan) := ⟨rfl, rfl, rfl, by decide +kernel, rfl, by decide +kernel, by decide +kernel⟩
theorem sc_scan_row : FnScope ["row", "line", "tokens", "at", "kind", "value", "length"] ["row", "line"] (defScope s_scan_row) := ⟨rfl, rfl, rfl, by decide +kernel, rfl, by decide +kernel, by decide +kernel⟩
theorem sc_token_at : FnScope ["row", "at", "place"] ["row", "at", "place"] (defScope s_token_at) := ⟨rfl, rfl, rfl, by decide +kernel, rfl, by decide +kernel, by decide +kernel⟩
theorem sc_word_at : FnScope ["row", "at", "place", "word"] ["row", "at", "place"] (defScope s_word_at) := ⟨rfl, rfl, rfl, by decide +kernel, rfl, by decide +kernel, by decide +kernel⟩
theorem sc_number_at : FnScope ["row", "at", "place", "digits", "behind"] ["row", "at", "place"] (defScope s_number_at) := ⟨rfl, rfl, rfl, by decide +kernel, rfl, by decide +kernel, by decide +kernel⟩
theorem sc_characters_at : FnScope ["row", "at", "allowed", "end"] ["row", "at", "allowed"] (defScope s_characters_at) := ⟨rfl, rfl, rfl, by decide +kernel, rfl, by decide +kernel, by decide +kernel⟩
theorem sc_law_mixed : FnScope ["number", "count", "first", "second"] ["number", "count"] (defScope s_law_mixed) := ⟨rfl, rfl, rfl, by decide +kernel, rfl, by decide +kernel, by decide +kernel⟩
theorem sc_law_state : FnScope ["script", "budget"] ["script", "budget"] (defScope s_law_state) := ⟨rfl, rfl, rfl, by decide +kernel, rfl, by decide +kernel, by decide +kernel⟩
theorem sc_law_draw : FnScope ["state", "many", "cells", "cell", "digit"] ["state", "many"] (defScope s_law_draw) := ⟨rfl, rfl, rfl, by decide +kernel, rfl, by decide +kernel, by decide +kernel⟩
theorem sc_law_reserved : FnScope ["words"] [] (defScope s_law_reserved) := ⟨rfl, rfl, rfl, by decide +kernel, rfl, by decide +kernel, by decide +kernel⟩
theorem sc_law_char : FnScope ["state", "chars"] ["state"] (defScope s_law_char) := ⟨rfl, rfl, rfl, by decide +kernel, rfl, by decide +kernel, by decide +kernel⟩
theorem sc_law_name : FnScope ["state", "chars", "size", "choice", "name", "k", "char"] ["state"] (defScope s_law_name) := ⟨rfl, rfl, rfl, by decide +kernel, rfl, by decide +kernel, by decide +kernel⟩
theorem sc_law_number : FnScope ["state", "choice"] ["state"] (defScope s_law_number) := ⟨rfl, rfl, rfl, by decide +kernel, rfl, by decide +kernel, by decide +kernel⟩
theorem sc_law_digits : FnScope ["state", "value", "digits"] ["state", "value"] (defScope s_law_digits) := ⟨rfl, rfl, rfl, by decide +kernel, rfl, by decide +kernel, by decide +kernel⟩
theorem sc_law_gap : FnScope ["state", "before", "after", "chars", "choice", "joins", "comment", "k"] ["state", "before", "after"] (defScope s_law_gap) := ⟨rfl, rfl, rfl, by decide +kernel, rfl, by decide +kernel, by decide +kernel⟩
theorem sc_law_layout : FnScope ["state", "pieces", "text", "line", "column", "places", "before", "piece", "gap", "char", "tail", "k"] ["state", "pieces"] (defScope s_law_layout) := ⟨rfl, rfl, rfl, by decide +kernel, rfl, by decide +kernel, by decide +kernel⟩
theorem sc_law_same : FnScope ["actual", "due", "k"] ["actual", "due"] (defScope s_law_same) := ⟨rfl, rfl, rfl, by decide +kernel, rfl, by decide +kernel, by decide +kernel⟩
theorem sc_law_token : FnScope ["state", "signs", "choice", "word", "name", "value", "sign"] ["state"] (defScope s_law_token) := ⟨rfl, rfl, rfl, by decide +kernel, rfl, by decide +kernel, by decide +kernel⟩
theorem sc_law : FnScope ["script", "state", "tokens", "k", "text", "places", "token", "due", "actual", "again"] ["script"] (defScope s_law) := ⟨rfl, rfl, rfl, by decide +kernel, rfl, by decide +kernel, by decide +kernel⟩
abbrev s_SourceError___init__ : Stmt := inClass (top 2) 0
/-! ### the __init__ of the errors of a text -/
structure SupAt (K : PySem.W.Frag) (f : Addr) (fd : FuncData) (D : Addr) (file : Str) : Prop where
  ex : ∃ (oc : Value) (od : Option Addr) (kV dc pm ct : Value) (an : Option Addr) (sl : Array (Option Value)) (cda cc : Addr) (co ccl : Obj) (vs : Array Value) (tf : Tok) (cdD : ClassData),
    fd = PySem.W.ksFn "__init__" "SourceError.__init__" (defArgs s_SourceError___init__) (defBody s_SourceError___init__) (defScope s_SourceError___init__) .none kV dc pm an (.ref cda) ct cc ∧
    K.lookup f = some ⟨oc, od, .func fd, sl⟩ ∧ PySem.W.codeIn K (.ref cda) "SourceError.__init__" = true ∧ K.lookup cda = some co ∧ co.data = .fields vs ∧ vs[2]? = some (.str file tf) ∧
    K.lookup cc = some ccl ∧ ccl.data = .cell (some (.ref D)) ∧ PySem.W.clsIn K D = some cdD
structure PrgOk (P : Program) (file : Str) : Prop where
  fl : ((P.main.file : Str) == file) = true
  tp : (P.main.scope.names.lookup ("super" : Str)).isSome = false
theorem supS : SupS (defScope s_SourceError___init__) where
  knd := rfl
  cor := rfl
  gnr := rfl
  noc := by decide +kernel
  fr := fun y h => by
    have := PySem.mem_of_lookup h
    have all : ∀ z ∈ (defScope s_SourceError___init__).names, z.2 = .free → z.1 = "__class__" := by decide +kernel
    exact all _ this rfl
  se := rfl
  me := rfl
  pl := rfl
  cl := rfl
  su := rfl
theorem ok_SourceError {P : Program} {w : World} {K : PySem.W.Frag} {mg : Str → Option Value} {base : Heap} {f : Addr} {fd : FuncData} {D : Addr} {file : Str} (T : SupAt K f fd D file) (hP : PrgOk P file) (hsu : mg "super" = none) (hst : PySem.W.nsIn K cStatics "thirdparty.any" = some none) :
    FnOk P w K mg base CX0 1 f fd ["self", "message", "place"] (spSup K D) := by
  obtain ⟨oc, od, kV, dc, pm, ct, an, sl, cda, cc, co, ccl, vs, tf, cdD, rfl, h1, h2, h3, h4, h5, h6, h7, h8⟩ := T.ex
  exact ok_sup h1 h2 supS rfl rfl h3 h4 h5 hP.fl h6 h7 h8 hsu hP.tp hst rfl (fun L => rfl) fun A outer s H E => pss_one (ps_asg (pv 2 rfl (.inl supS.pl)) (pg_tup rfl (pgs_cons (pg_ost (pv 0 rfl (.inl supS.se))) (pgs_cons (pg_ost (pv 0 rfl (.inl supS.se))) pgs_nil))))

structure Ad where
  f_scan : Addr
  d_scan : FuncData
  f_scan_row : Addr
  d_scan_row : FuncData
  f_token_at : Addr
  d_token_at : FuncData
  f_word_at : Addr
  d_word_at : FuncData
  f_number_at : Addr
  d_number_at : FuncData
  f_characters_at : Addr
  d_characters_at : FuncData
  f_law_mixed : Addr
  d_law_mixed : FuncData
  f_law_state : Addr
  d_law_state : FuncData
  f_law_draw : Addr
  d_law_draw : FuncData
  f_law_reserved : Addr
  d_law_reserved : FuncData
  f_law_char : Addr
  d_law_char : FuncData
  f_law_name : Addr
  d_law_name : FuncData
  f_law_number : Addr
  d_law_number : FuncData
  f_law_digits : Addr
  d_law_digits : FuncData
  f_law_gap : Addr
  d_law_gap : FuncData
  f_law_layout : Addr
  d_law_layout : FuncData
  f_law_same : Addr
  d_law_same : FuncData
  f_law_token : Addr
  d_law_token : FuncData
  f_law : Addr
  d_law : FuncData
  t_DIGITS : Tok
  t_GREATEST_NUMBER : Tok
  t_LETTERS : Tok
  t_LONGEST_NAME : Tok
  t_LONGEST_NUMBER : Tok
  t_LONGEST_TEXT : Tok
  c_LONG_SIGNS : Addr
  t_NAME_CHARACTERS : Tok
  c_RESERVED : Addr
  t_SHORT_SIGNS : Tok
  f_sup : Addr
  d_sup : FuncData
  file : Str
  C_AdaError : Addr
  C_SourceError : Addr
  C_ScanError : Addr
  C_TooLarge : Addr
structure Txt (K : PySem.W.Frag) (mg : Str → Option Value) (a : Ad) : Prop where
  g_scan : mg "scan" = some (.ref a.f_scan)
  F_scan : Fun K "scan" "scan" s_scan a.f_scan a.d_scan
  k_scan : PySem.W.keepIn K (.ref a.f_scan) = true
  bd_scan : Binds K a.d_scan ["text"] []
  g__scan_row : mg "_scan_row" = some (.ref a.f_scan_row)
  F__scan_row : Fun K "_scan_row" "_scan_row" s_scan_row a.f_scan_row a.d_scan_row
  k__scan_row : PySem.W.keepIn K (.ref a.f_scan_row) = true
  bd__scan_row : Binds K a.d_scan_row ["row", "line"] []
  g__token_at : mg "_token_at" = some (.ref a.f_token_at)
  F__token_at : Fun K "_token_at" "_token_at" s_token_at a.f_token_at a.d_token_at
  k__token_at : PySem.W.keepIn K (.ref a.f_token_at) = true
  bd__token_at : Binds K a.d_token_at ["row", "at", "place"] []
  g__word_at : mg "_word_at" = some (.ref a.f_word_at)
  F__word_at : Fun K "_word_at" "_word_at" s_word_at a.f_word_at a.d_word_at
  k__word_at : PySem.W.keepIn K (.ref a.f_word_at) = true
  bd__word_at : Binds K a.d_word_at ["row", "at", "place"] []
  g__number_at : mg "_number_at" = some (.ref a.f_number_at)
  F__number_at : Fun K "_number_at" "_number_at" s_number_at a.f_number_at a.d_number_at
  k__number_at : PySem.W.keepIn K (.ref a.f_number_at) = true
  bd__number_at : Binds K a.d_number_at ["row", "at", "place"] []
  g__characters_at : mg "_characters_at" = some (.ref a.f_characters_at)
  F__characters_at : Fun K "_characters_at" "_characters_at" s_characters_at a.f_characters_at a.d_characters_at
  k__characters_at : PySem.W.keepIn K (.ref a.f_characters_at) = true
  bd__characters_at : Binds K a.d_characters_at ["row", "at", "allowed"] []
  g__law_mixed : mg "_law_mixed" = some (.ref a.f_law_mixed)
  F__law_mixed : Fun K "_law_mixed" "_law_mixed" s_law_mixed a.f_law_mixed a.d_law_mixed
  k__law_mixed : PySem.W.keepIn K (.ref a.f_law_mixed) = true
  bd__law_mixed : Binds K a.d_law_mixed ["number", "count"] []
  g__law_state : mg "_law_state" = some (.ref a.f_law_state)
  F__law_state : Fun K "_law_state" "_law_state" s_law_state a.f_law_state a.d_law_state
  k__law_state : PySem.W.keepIn K (.ref a.f_law_state) = true
  bd__law_state : Binds K a.d_law_state ["script", "budget"] []
  g__law_draw : mg "_law_draw" = some (.ref a.f_law_draw)
  F__law_draw : Fun K "_law_draw" "_law_draw" s_law_draw a.f_law_draw a.d_law_draw
  k__law_draw : PySem.W.keepIn K (.ref a.f_law_draw) = true
  bd__law_draw : Binds K a.d_law_draw ["state", "many"] []
  g__law_reserved : mg "_law_reserved" = some (.ref a.f_law_reserved)
  F__law_reserved : Fun K "_law_reserved" "_law_reserved" s_law_reserved a.f_law_reserved a.d_law_reserved
  k__law_reserved : PySem.W.keepIn K (.ref a.f_law_reserved) = true
  bd__law_reserved : Binds K a.d_law_reserved [] []
  g__law_char : mg "_law_char" = some (.ref a.f_law_char)
  F__law_char : Fun K "_law_char" "_law_char" s_law_char a.f_law_char a.d_law_char
  k__law_char : PySem.W.keepIn K (.ref a.f_law_char) = true
  bd__law_char : Binds K a.d_law_char ["state"] []
  g__law_name : mg "_law_name" = some (.ref a.f_law_name)
  F__law_name : Fun K "_law_name" "_law_name" s_law_name a.f_law_name a.d_law_name
  k__law_name : PySem.W.keepIn K (.ref a.f_law_name) = true
  bd__law_name : Binds K a.d_law_name ["state"] []
  g__law_number : mg "_law_number" = some (.ref a.f_law_number)
  F__law_number : Fun K "_law_number" "_law_number" s_law_number a.f_law_number a.d_law_number
  k__law_number : PySem.W.keepIn K (.ref a.f_law_number) = true
  bd__law_number : Binds K a.d_law_number ["state"] []
  g__law_digits : mg "_law_digits" = some (.ref a.f_law_digits)
  F__law_digits : Fun K "_law_digits" "_law_digits" s_law_digits a.f_law_digits a.d_law_digits
  k__law_digits : PySem.W.keepIn K (.ref a.f_law_digits) = true
  bd__law_digits : Binds K a.d_law_digits ["state", "value"] []
  g__law_gap : mg "_law_gap" = some (.ref a.f_law_gap)
  F__law_gap : Fun K "_law_gap" "_law_gap" s_law_gap a.f_law_gap a.d_law_gap
  k__law_gap : PySem.W.keepIn K (.ref a.f_law_gap) = true
  bd__law_gap : Binds K a.d_law_gap ["state", "before", "after"] []
  g__law_layout : mg "_law_layout" = some (.ref a.f_law_layout)
  F__law_layout : Fun K "_law_layout" "_law_layout" s_law_layout a.f_law_layout a.d_law_layout
  k__law_layout : PySem.W.keepIn K (.ref a.f_law_layout) = true
  bd__law_layout : Binds K a.d_law_layout ["state", "pieces"] []
  g__law_same : mg "_law_same" = some (.ref a.f_law_same)
  F__law_same : Fun K "_law_same" "_law_same" s_law_same a.f_law_same a.d_law_same
  k__law_same : PySem.W.keepIn K (.ref a.f_law_same) = true
  bd__law_same : Binds K a.d_law_same ["actual", "due"] []
  g__law_token : mg "_law_token" = some (.ref a.f_law_token)
  F__law_token : Fun K "_law_token" "_law_token" s_law_token a.f_law_token a.d_law_token
  k__law_token : PySem.W.keepIn K (.ref a.f_law_token) = true
  bd__law_token : Binds K a.d_law_token ["state"] []
  g_law : mg "law" = some (.ref a.f_law)
  F_law : Fun K "law" "law" s_law a.f_law a.d_law
  k_law : PySem.W.keepIn K (.ref a.f_law) = true
  bd_law : Binds K a.d_law ["script"] []
  g_DIGITS : mg "DIGITS" = some (.str "0123456789" a.t_DIGITS)
  g_GREATEST_NUMBER : mg "GREATEST_NUMBER" = some (.int (2147483647) a.t_GREATEST_NUMBER)
  g_LETTERS : mg "LETTERS" = some (.str "abcdefghijklmnopqrstuvwxyz" a.t_LETTERS)
  g_LONGEST_NAME : mg "LONGEST_NAME" = some (.int (30) a.t_LONGEST_NAME)
  g_LONGEST_NUMBER : mg "LONGEST_NUMBER" = some (.int (10) a.t_LONGEST_NUMBER)
  g_LONGEST_TEXT : mg "LONGEST_TEXT" = some (.int (4000) a.t_LONGEST_TEXT)
  g_LONG_SIGNS : mg "LONG_SIGNS" = some (.ref a.c_LONG_SIGNS)
  q_LONG_SIGNS : ∀ H : Hp, SqT K H a.c_LONG_SIGNS [.str ":=", .str "=>", .str "..", .str "/=", .str "<=", .str ">="]
  g_NAME_CHARACTERS : mg "NAME_CHARACTERS" = some (.str "abcdefghijklmnopqrstuvwxyz0123456789_" a.t_NAME_CHARACTERS)
  g_RESERVED : mg "RESERVED" = some (.ref a.c_RESERVED)
  q_RESERVED : ∀ H : Hp, SqT K H a.c_RESERVED [.str "abs", .str "and", .str "array", .str "begin", .str "case", .str "constant", .str "declare", .str "else", .str "elsif", .str "end", .str "exception", .str "exit", .str "false", .str "for", .str "function", .str "get", .str "if", .str "in", .str "is", .str "loop", .str "mod", .str "not", .str "null", .str "of", .str "or", .str "others", .str "out", .str "procedure", .str "put", .str "raise", .str "range", .str "rem", .str "return", .str "reverse", .str "subtype", .str "then", .str "true", .str "type", .str "when", .str "while", .str "xor"]
  g_SHORT_SIGNS : mg "SHORT_SIGNS" = some (.str "(),:;'|+-*/=<>" a.t_SHORT_SIGNS)
  b_abs : mg "abs" = none
  b_all : mg "all" = none
  b_bool : mg "bool" = none
  b_enumerate : mg "enumerate" = none
  b_int : mg "int" = none
  b_isinstance : mg "isinstance" = none
  b_len : mg "len" = none
  b_list : mg "list" = none
  b_range : mg "range" = none
  b_str : mg "str" = none
  b_sum : mg "sum" = none
  b_super : mg "super" = none
  b_tuple : mg "tuple" = none
  sup : SupAt K a.f_sup a.d_sup a.C_SourceError a.file
  tS : PySem.W.typeIn K (.ref a.f_sup) = some (.type "function")
  bdS : Binds K a.d_sup ["self", "message", "place"] []
  stS : PySem.W.nsIn K cStatics "thirdparty.any" = some none
  g_AdaError : mg "AdaError" = some (.ref a.C_AdaError)
  s1_AdaError : PySem.W.subIn K (.ref a.C_AdaError) (.type "BaseException") = some true
  ty_AdaError : PySem.W.typeIn K (.ref a.C_AdaError) = some (.type "type")
  ic_AdaError : PySem.W.isClsIn K a.C_AdaError = true
  g_SourceError : mg "SourceError" = some (.ref a.C_SourceError)
  s1_SourceError : PySem.W.subIn K (.ref a.C_SourceError) (.type "BaseException") = some true
  ty_SourceError : PySem.W.typeIn K (.ref a.C_SourceError) = some (.type "type")
  ic_SourceError : PySem.W.isClsIn K a.C_SourceError = true
  g_ScanError : mg "ScanError" = some (.ref a.C_ScanError)
  s1_ScanError : PySem.W.subIn K (.ref a.C_ScanError) (.type "BaseException") = some true
  ty_ScanError : PySem.W.typeIn K (.ref a.C_ScanError) = some (.type "type")
  ic_ScanError : PySem.W.isClsIn K a.C_ScanError = true
  ox_ScanError : SupC K a.C_SourceError a.C_ScanError
  iC_ScanError : PySem.W.findIn K (.ref a.C_ScanError) "__init__" = some (some (.ref a.f_sup))
  ec_ScanError : ExcC K a.C_ScanError
  xf_ScanError : XfC K a.C_ScanError
  g_TooLarge : mg "TooLarge" = some (.ref a.C_TooLarge)
  s1_TooLarge : PySem.W.subIn K (.ref a.C_TooLarge) (.type "BaseException") = some true
  ty_TooLarge : PySem.W.typeIn K (.ref a.C_TooLarge) = some (.type "type")
  ic_TooLarge : PySem.W.isClsIn K a.C_TooLarge = true
  ox_TooLarge : SupC K a.C_SourceError a.C_TooLarge
  iC_TooLarge : PySem.W.findIn K (.ref a.C_TooLarge) "__init__" = some (some (.ref a.f_sup))
  ec_TooLarge : ExcC K a.C_TooLarge
  xf_TooLarge : XfC K a.C_TooLarge
/-! ### texts as rows of signs -/
def sl (cs : List Nat) : Str := ⟨cs.toArray⟩
theorem sl_len (cs : List Nat) : (sl cs).length = cs.length := by simp [sl, Str.length]
theorem sl_list (cs : List Nat) : (sl cs).cps.toList = cs := by simp [sl]
theorem sl_self (w : Str) : sl w.cps.toList = w := by cases w; rfl
def zL : Str := "abcdefghijklmnopqrstuvwxyz"
def zD : Str := "0123456789"
def zN : Str := "abcdefghijklmnopqrstuvwxyz0123456789_"
def zS : Str := "(),:;'|+-*/=<>"
def isIn (z : Str) (c : Nat) : Bool := decide (c ∈ z.cps.toList)
def runOf (z : Str) (r : List Nat) : List Nat := r.takeWhile (isIn z)
def vRES : List V := [.str "abs", .str "and", .str "array", .str "begin", .str "case", .str "constant", .str "declare", .str "else", .str "elsif", .str "end", .str "exception", .str "exit", .str "false", .str "for", .str "function", .str "get", .str "if", .str "in", .str "is", .str "loop", .str "mod", .str "not", .str "null", .str "of", .str "or", .str "others", .str "out", .str "procedure", .str "put", .str "raise", .str "range", .str "rem", .str "return", .str "reverse", .str "subtype", .str "then", .str "true", .str "type", .str "when", .str "while", .str "xor"]
def vLONG : List V := [.str ":=", .str "=>", .str "..", .str "/=", .str "<=", .str ">="]
theorem cut_nat (cs : List Nat) (i j : Nat) (hi : i ≤ cs.length) : cutS (sl cs) (some (i : Int)) (some (j : Int)) = sl ((cs.drop i).take (j - i)) := by
  unfold cutS
  rw [HT.sIx_nat, HT.sIx_nat, sl_list, sl_len]
  show sl _ = sl _
  refine congrArg sl ?_
  rw [Nat.min_eq_left hi]
  by_cases h : j ≤ cs.length
  · rw [Nat.min_eq_left h]
  · rw [Nat.min_eq_right (by omega)]
    have l : (cs.drop i).length = cs.length - i := List.length_drop ..
    rw [List.take_of_length_le (by omega), List.take_of_length_le (by omega)]
theorem take_run {p : Nat → Bool} : ∀ (r : List Nat) (n : Nat), n ≤ r.length → (∀ k c, k < n → r[k]? = some c → p c = true) → (∀ c, r[n]? = some c → p c = false) → r.takeWhile p = r.take n
  | [], n, h, _, _ => by simp
  | c :: r, 0, _, _, h2 => by simp [h2 c (by simp)]
  | c :: r, n + 1, h, h1, h2 => by
    rw [List.takeWhile_cons_of_pos (h1 0 c (by omega) (by simp)), List.take_succ_cons, take_run r n (by simpa using h) (fun k d hk e => h1 (k + 1) d (by omega) (by simpa using e)) (fun d e => h2 d (by simpa using e))]
def spChars : Sp := fun vs H Q _ => ∃ (cs : List Nat) (i : Nat) (z : Str), vs = [.str (sl cs), .int (i : Int), .str z] ∧ i ≤ cs.length ∧ cs.length ≤ 10000 ∧ Q (.str (sl (runOf z (cs.drop i)))) H
section
variable {P : Program} {w : World} {K : PySem.W.Frag} {mg : Str → Option Value} {base : Heap} {a : Ad}
theorem ok_characters_at (T : Txt K mg a) : FnOk P w K mg base CX0 1 a.f_characters_at a.d_characters_at ["row", "at", "allowed"] spChars := by
  refine T.F__characters_at.ok sc_characters_at (fun vs H Q E h => ?_) (fun cdv A outer s H vs Q E hr h => ?_)
  · obtain ⟨_, _, _, rfl, _⟩ := h; rfl
  · obtain ⟨cs, i, z, rfl, hi, hn, q⟩ := h
    have hz := sizeLine_eq
    refine ⟨_, (pss_cons (ps_set (i := 3) sc_characters_at.nd rfl (Or.inl rfl) (pv 1))
      (pss_cons (ps_while PassesOwn.never (PW.pt (pw_and (pt_cmpR op_lt (pv 3) (pe_callB call_len_str (by rfl) T.b_len (by decide +kernel) (pa_cons (pv 0) pa_nil)) (nomark _)) (pw_and1 (pt_cmpR op_in_sign (pe_ix ix_str (pv 0) (pv 3) (fun _ _ => rfl)) (pv 2) rfl)))) (pss_one (ps_aug (i := 3) sc_characters_at.nd rfl (Or.inl rfl) pe_int ip_add)))
      (pss_one (ps_ret (pe_slice sl_str (pv 0) (po_some (pv 1)) (po_some (pv 3))))))), ?_⟩
    refine ⟨_, rfl, fun m σ H1 => ∃ j : Nat, H1 = H ∧ σ = [some (.str (sl cs)), some (.int (i : Int)), some (.str z), some (.int (j : Int))] ∧ i ≤ j ∧ j ≤ cs.length ∧ m = cs.length - j ∧ ∀ k c, k < j - i → (cs.drop i)[k]? = some c → isIn z c = true, ⟨_, i, rfl, rfl, Nat.le_refl _, hi, rfl, fun k c h => absurd h (by omega)⟩, ?_⟩
    rintro m σ H1 ⟨j, rfl, rfl, hij, hj, rfl, hall⟩
    have fin : (∀ c, (cs.drop i)[j - i]? = some c → isIn z c = false) → runOf z (cs.drop i) = (cs.drop i).take (j - i) := fun hstop =>
      take_run _ _ (by rw [List.length_drop]; omega) hall hstop
    have done : (∀ c, (cs.drop i)[j - i]? = some c → isIn z c = false) → Q (.str (cutS (sl cs) (some (i : Int)) (some (j : Int)))) H1 := fun hstop => by
      rw [cut_nat cs i j hi, ← fin hstop]
      exact q
    refine ⟨_, rfl, _, rfl, _, rfl, (by rw [sl_len]; omega), _, _, rfl, rfl, _, rfl, ite3 (fun c1 => ?_) (fun c1 => ?_)⟩
    · have hlt : j < cs.length := by
        have := of_decide_eq_true c1
        rw [sl_len] at this
        omega
      refine ⟨_, rfl, _, rfl, _, _, cs[j], rfl, rfl, (by rw [sl_len]; omega), atI_nat (by rw [sl_list]; simp [hlt]), _, rfl, _, _, rfl, rfl, _, rfl, ite3 (fun c2 => ?_) (fun c2 => ?_)⟩
      · refine ⟨fun σ' H' => ∃ j' : Nat, j' = j + 1 ∧ H' = H1 ∧ σ' = [some (.str (sl cs)), some (.int (i : Int)), some (.str z), some (.int (j' : Int))], ?_, ?_⟩
        · rintro σ' H' ⟨j', rfl, rfl, rfl⟩
          refine ⟨_, by omega, j + 1, rfl, rfl, by omega, by omega, rfl, fun k c hk e => ?_⟩
          by_cases h : k < j - i
          · exact hall k c h e
          · have hk' : k = j - i := by omega
            subst hk'
            rw [List.getElem?_drop, show i + (j - i) = j by omega, List.getElem?_eq_getElem hlt] at e
            rw [← Option.some.inj e]
            exact c2
        · exact ⟨_, rfl, _, _, rfl, rfl, j + 1, rfl, rfl, rfl⟩
      · refine ⟨_, rfl, _, rfl, _, rfl, _, rfl, _, rfl, _, rfl, (by rw [sl_len]; omega), done fun c e => ?_⟩
        rw [List.getElem?_drop, show i + (j - i) = j by omega, List.getElem?_eq_getElem hlt] at e
        rw [← Option.some.inj e]
        exact c2
    · have hge : j = cs.length := by
        have := of_decide_eq_false c1
        rw [sl_len] at this
        omega
      refine ⟨_, rfl, _, rfl, _, rfl, _, rfl, _, rfl, _, rfl, (by rw [sl_len]; omega), done fun c e => ?_⟩
      rw [List.getElem?_drop, List.getElem?_eq_none (by omega)] at e
      cases e
end

/-! ### one token -/
abbrev TkF := List Nat → Option (V × V × Nat)
def usc : Str := "_"
def partsOf (w : List Nat) : List V := (Txt.split (sl w) usc).map V.str
def wordF : TkF := fun r =>
  if inV (.str (sl (runOf zN r))) vRES = true then some (.str "word", .str (sl (runOf zN r)), (runOf zN r).length)
  else if 30 < (runOf zN r).length ∨ inV (.str "") (partsOf (runOf zN r)) = true then none
  else some (.str "name", .str (sl (runOf zN r)), (runOf zN r).length)
def numV (r : List Nat) : Int := ((NumText.digitsVal (runOf zD r) : Nat) : Int)
def numF : TkF := fun r =>
  if (∃ c, r[(runOf zD r).length]? = some c ∧ isIn zN c = true) then none
  else if 10 < (runOf zD r).length ∨ 2147483647 < numV r then none
  else some (.str "number", .int (numV r), (runOf zD r).length)
def tokF : TkF := fun r => match r with
  | [] => none
  | c :: t =>
    if isIn zL c = true then wordF (c :: t)
    else if isIn zD c = true then numF (c :: t)
    else if inV (.str (sl ((c :: t).take 2))) vLONG = true then some (.str "sign", .str (sl ((c :: t).take 2)), 2)
    else if isIn zS c = true then some (.str "sign", .str (sl [c]), 1)
    else none
def ScE (C : Addr) (l c : V) (H : Hp) (E : XK) : Prop := ∀ d H1, Same H H1 → H1 d = none → E (.ref C) (some d) (upd H1 d (.xd [("column", c), ("line", l)]))
theorem ScE.mono {C : Addr} {l c : V} {H H1 : Hp} {E : XK} (h : ScE C l c H E) (s : Same H H1) : ScE C l c H1 E := fun d H2 s2 n => h d H2 (fun b o e => s2 b o (s b o e)) n
def spTok (C : Addr) (pre : Nat → Prop) (F : TkF) : Sp := fun vs H Q E => ∃ (cs : List Nat) (i : Nat) (x : Nat) (pl : Addr) (l c : V), vs = [.str (sl cs), .int (i : Int), .ref pl] ∧ cs[i]? = some x ∧ pre x ∧ cs.length ≤ 10000 ∧ H pl = some (.tup [l, c]) ∧
  (F (cs.drop i) = none → ScE C l c H E) ∧ ∀ k v n, F (cs.drop i) = some (k, v, n) → ∀ p H1, Same H H1 → H1 p = none → Q (.ref p) (upd H1 p (.tup [k, v, .int (n : Int)]))
theorem upd_del {H : Hp} {x dx : Addr} {u1 u2 u3 u4 u5 : HO} (nx : H x = none) (ne : dx ≠ x) : upd (del (upd (upd (upd (upd H x u1) dx u2) x u3) dx u4) x) dx u5 = upd H dx u5 := by
  funext b
  by_cases h1 : b = dx
  · subst h1
    rw [upd_same, upd_same]
  · rw [upd_ne h1, upd_ne h1]
    by_cases h2 : b = x
    · subst h2
      rw [del_same, nx]
    · rw [del_ne h2, upd_ne h1, upd_ne h2, upd_ne h1, upd_ne h2]
theorem flat_strs (l : List Str) : (l.map V.str).all flatV = true := by
  rw [List.all_eq_true]
  intro x hx
  obtain ⟨z, _, rfl⟩ := List.mem_map.mp hx
  rfl
theorem runOf_le (z : Str) (r : List Nat) : (runOf z r).length ≤ r.length := (List.takeWhile_sublist _).length_le
theorem runOf_all (z : Str) : ∀ (r : List Nat), ∀ c ∈ runOf z r, isIn z c = true
  | [], c, h => by simp [runOf] at h
  | x :: r, c, h => by
    unfold runOf at h
    by_cases hx : isIn z x = true
    · rw [List.takeWhile_cons_of_pos hx] at h
      rcases List.mem_cons.mp h with rfl | h
      · exact hx
      · exact runOf_all z r c h
    · rw [List.takeWhile_cons_of_neg hx] at h
      cases h
theorem runOf_pos {z : Str} {r : List Nat} {c : Nat} (h : r[0]? = some c) (hc : isIn z c = true) : runOf z r ≠ [] := by
  cases r with
  | nil => cases h
  | cons x r =>
    obtain rfl : x = c := by simpa using h
    unfold runOf
    rw [List.takeWhile_cons_of_pos hc]
    simp
theorem zD_is {c : Nat} (h : isIn zD c = true) : 48 ≤ c ∧ c ≤ 57 := by
  have e : zD.cps.toList = [48, 49, 50, 51, 52, 53, 54, 55, 56, 57] := by decide +kernel
  unfold isIn at h
  rw [e] at h
  simp at h
  omega
theorem num_read {r : List Nat} {c : Nat} (h : r[0]? = some c) (hc : isIn zD c = true) (hl : (runOf zD r).length ≤ 10) : intText? (sl (runOf zD r)) = some (numV r) := by
  refine intText_digits (x := sl (runOf zD r)) (fun d hd => ?_) ?_ ?_
  · rw [sl_list] at hd
    exact zD_is (runOf_all _ _ _ hd)
  · rw [sl_list]
    exact runOf_pos h hc
  · rw [sl_len]; omega
section
variable {P : Program} {w : World} {K : PySem.W.Frag} {mg : Str → Option Value} {base : Heap} {a : Ad}
theorem ok_word_at (T : Txt K mg a) (hP : PrgOk P a.file) : FnOk P w K mg base (L2.CX P w) 4 a.f_word_at a.d_word_at ["row", "at", "place"] (spTok a.C_ScanError (fun _ => True) wordF) := by
  have G_sup : FnOk P w K mg base CX0 1 _ _ _ _ := ok_SourceError T.sup hP T.b_super T.stS
  have G_characters_at : FnOk P w K mg base CX0 1 _ _ _ _ := ok_characters_at T
  refine T.F__word_at.okX sc_word_at (fun vs H Q E h => ?_) (fun cdv A outer s H vs Q E hr h => ?_)
  · obtain ⟨_, _, _, _, _, _, rfl, _⟩ := h; rfl
  · obtain ⟨cs, i, x, pl, l, c, rfl, hx, _, hn, hpl, qe, qn⟩ := h
    have hz := sizeLine_eq
    have hi : i < cs.length := (List.getElem?_eq_some_iff.mp hx).1
    have hrl : (runOf zN (cs.drop i)).length ≤ 10000 := by
      have := runOf_le zN (cs.drop i)
      rw [List.length_drop] at this
      omega
    have hsl : (sl (runOf zN (cs.drop i))).length ≤ sizeLine := by rw [sl_len]; omega
    refine ⟨_, (pss_cons (ps_set (i := 3) sc_word_at.nd rfl (Or.inl rfl) (pe_call G_characters_at (hr.mono (by decide)) rfl T.g__characters_at T.k__characters_at T.bd__characters_at .nil pass0 (pa_cons (pv 0) (pa_cons (pv 1) (pa_cons (pe_glob (v := .str "abcdefghijklmnopqrstuvwxyz0123456789_") rfl T.g_NAME_CHARACTERS ⟨_, rfl⟩) pa_nil)))))
      (pss_cons (ps_if (pt_cmpR op_inS (pv 3) (pe_glob (v := .ref a.c_RESERVED) rfl T.g_RESERVED rfl) rfl) (pss_one (ps_ret (pe_tup (pa_cons pe_str (pa_cons (pv 3) (pa_cons (pe_callB call_len_str (by rfl) T.b_len (by decide +kernel) (pa_cons (pv 3) pa_nil)) pa_nil)))))) pss_nil)
      (pss_cons (ps_if (PW.pt (pw_or (pt_cmpR op_gt (pe_callB call_len_str (by rfl) T.b_len (by decide +kernel) (pa_cons (pv 3) pa_nil)) (pe_glob (v := .int (30)) rfl T.g_LONGEST_NAME ⟨_, rfl⟩) (nomark _)) (pw_or1 (pt_cmpR op_inS pe_str (pe_split (pv 3) pe_str) rfl)))) (pss_one (ps_raise rfl (takes_of rfl rfl rfl rfl) (pmk_oex T.ox_ScanError.oex T.iC_ScanError T.tS G_sup (hr.mono (by decide)) T.bdS .nil pass0 rfl T.g_ScanError (pa_cons pe_str (pa_cons (pv 2) pa_nil))))) pss_nil)
      (pss_one (ps_ret (pe_tup (pa_cons pe_str (pa_cons (pv 3) (pa_cons (pe_callB call_len_str (by rfl) T.b_len (by decide +kernel) (pa_cons (pv 3) pa_nil)) pa_nil))))))))), ?_⟩
    refine ⟨_, rfl, _, rfl, cs, i, zN, rfl, by omega, hn, ?_⟩
    refine ⟨_, rfl, a.c_RESERVED, vRES, rfl, .inr (T.q_RESERVED _), rfl, by decide +kernel, _, rfl, ite3 (fun c1 => ?_) (fun c1 => ?_)⟩
    · refine ⟨_, rfl, _, rfl, _, rfl, hsl, (by show 3 ≤ sizeLine; decide), fun p np => ?_⟩
      rw [sl_len]
      refine qn _ _ _ ?_ p _ (Same.refl H) np
      unfold wordF
      rw [if_pos c1]
    · have s0 := Same.refl H
      refine ⟨_, rfl, _, rfl, hsl, _, _, rfl, rfl, _, rfl, ite3 (fun c2 => ?_) (fun c2 => ?_)⟩
      · have e2 : 30 < (runOf zN (cs.drop i)).length := by
          have := of_decide_eq_true c2
          rw [sl_len] at this
          omega
        refine ⟨_, rfl, (by show 2 ≤ 1000; omega), fun x nx => ⟨x, a.C_ScanError, pl, _, l, c, rfl, T.ox_ScanError, upd_same, SqT.of (by rw [upd_ne (ne_of_none (s0 _ _ hpl) nx)]; exact s0 _ _ hpl), fun d nd ne => ?_⟩⟩
        refine ⟨rfl, d, _, by rw [upd_ne ne.symm, upd_same], upd_same, by rw [upd_ne ne] at nd; exact nd, ?_⟩
        rw [upd_del nx ne]
        refine qe ?_ d _ s0 (by rw [upd_ne ne] at nd; exact nd)
        unfold wordF
        rw [if_neg (ne_true_of_eq_false c1), if_pos (.inl e2)]
      · have e2 : ¬ 30 < (runOf zN (cs.drop i)).length := by
          have := of_decide_eq_false c2
          rw [sl_len] at this
          omega
        refine ⟨_, rfl, ⟨_, rfl⟩, _, _, rfl, rfl, rfl, (by rw [sl_len]; omega), fun p np => ?_⟩
        have s1 : Same H (upd H p (.lst (partsOf (runOf zN (cs.drop i))))) := sN s0 np
        refine ⟨p, _, rfl, .inl (SqL.of upd_same), rfl, flat_strs _, _, rfl, ite3 (fun c3 => ?_) (fun c3 => ?_)⟩
        · refine ⟨_, rfl, (by show 2 ≤ 1000; omega), fun x nx => ⟨x, a.C_ScanError, pl, _, l, c, rfl, T.ox_ScanError, upd_same, SqT.of (by rw [upd_ne (ne_of_none (s1 _ _ hpl) nx)]; exact s1 _ _ hpl), fun d nd ne => ?_⟩⟩
          refine ⟨rfl, d, _, by rw [upd_ne ne.symm, upd_same], upd_same, by rw [upd_ne ne] at nd; exact nd, ?_⟩
          rw [upd_del nx ne]
          refine qe ?_ d _ s1 (by rw [upd_ne ne] at nd; exact nd)
          unfold wordF
          rw [if_neg (ne_true_of_eq_false c1), if_pos (.inr c3)]
        · refine ⟨_, rfl, _, rfl, _, rfl, hsl, (by show 3 ≤ sizeLine; decide), fun p2 np2 => ?_⟩
          rw [sl_len]
          refine qn _ _ _ ?_ p2 _ s1 np2
          unfold wordF
          rw [if_neg (ne_true_of_eq_false c1), if_neg (fun z => z.elim e2 (ne_true_of_eq_false c3))]
end

section
variable {P : Program} {w : World} {K : PySem.W.Frag} {mg : Str → Option Value} {base : Heap} {a : Ad}
theorem ok_number_at (T : Txt K mg a) (hP : PrgOk P a.file) : FnOk P w K mg base (L2.CX P w) 4 a.f_number_at a.d_number_at ["row", "at", "place"] (spTok a.C_ScanError (fun x => isIn zD x = true) numF) := by
  have G_sup : FnOk P w K mg base CX0 1 _ _ _ _ := ok_SourceError T.sup hP T.b_super T.stS
  have G_characters_at : FnOk P w K mg base CX0 1 _ _ _ _ := ok_characters_at T
  refine T.F__number_at.okX sc_number_at (fun vs H Q E h => ?_) (fun cdv A outer s H vs Q E hr h => ?_)
  · obtain ⟨_, _, _, _, _, _, rfl, _⟩ := h; rfl
  · obtain ⟨cs, i, x, pl, l, c, rfl, hx, hxd, hn, hpl, qe, qn⟩ := h
    have hz := sizeLine_eq
    have hi : i < cs.length := (List.getElem?_eq_some_iff.mp hx).1
    have hrl' := runOf_le zD (cs.drop i)
    rw [List.length_drop] at hrl'
    have hrl : (runOf zD (cs.drop i)).length ≤ 10000 := by omega
    have hsl : (sl (runOf zD (cs.drop i))).length ≤ sizeLine := by rw [sl_len]; omega
    have hx0 : (cs.drop i)[0]? = some x := by rw [List.getElem?_drop]; exact hx
    have hcut : cutS (sl cs) (some ((i : Int) + ((sl (runOf zD (cs.drop i))).length : Int))) (some ((i : Int) + ((sl (runOf zD (cs.drop i))).length : Int) + 1)) = sl ((cs.drop (i + (runOf zD (cs.drop i)).length)).take 1) := by
      rw [sl_len]
      have e1 : (i : Int) + ((runOf zD (cs.drop i)).length : Int) = ((i + (runOf zD (cs.drop i)).length : Nat) : Int) := by omega
      rw [e1, show ((i + (runOf zD (cs.drop i)).length : Nat) : Int) + 1 = ((i + (runOf zD (cs.drop i)).length + 1 : Nat) : Int) by omega, cut_nat _ _ _ (by omega)]
      rw [show i + (runOf zD (cs.drop i)).length + 1 - (i + (runOf zD (cs.drop i)).length) = 1 by omega]
    have hat : (cs.drop i)[(runOf zD (cs.drop i)).length]? = cs[i + (runOf zD (cs.drop i)).length]? := by rw [List.getElem?_drop]
    refine ⟨_, (pss_cons (ps_set (i := 3) sc_number_at.nd rfl (Or.inl rfl) (pe_call G_characters_at (hr.mono (by decide)) rfl T.g__characters_at T.k__characters_at T.bd__characters_at .nil pass0 (pa_cons (pv 0) (pa_cons (pv 1) (pa_cons (pe_glob (v := .str "0123456789") rfl T.g_DIGITS ⟨_, rfl⟩) pa_nil)))))
      (pss_cons (ps_set (i := 4) sc_number_at.nd rfl (Or.inl rfl) (pe_slice sl_str (pv 0) (po_some (pe_op op_add (pv 1) (pe_callB call_len_str (by rfl) T.b_len (by decide +kernel) (pa_cons (pv 3) pa_nil)))) (po_some (pe_op op_add (pe_op op_add (pv 1) (pe_callB call_len_str (by rfl) T.b_len (by decide +kernel) (pa_cons (pv 3) pa_nil))) pe_int))))
      (pss_cons (ps_if (PW.pt (pw_and (pt_cmpR op_ne (pv 4) pe_str (nomark _)) (pw_and1 (pt_cmpR op_in_sign (pv 4) (pe_glob (v := .str "abcdefghijklmnopqrstuvwxyz0123456789_") rfl T.g_NAME_CHARACTERS ⟨_, rfl⟩) rfl)))) (pss_one (ps_raise rfl (takes_of rfl rfl rfl rfl) (pmk_oex T.ox_ScanError.oex T.iC_ScanError T.tS G_sup (hr.mono (by decide)) T.bdS .nil pass0 rfl T.g_ScanError (pa_cons pe_str (pa_cons (pv 2) pa_nil))))) pss_nil)
      (pss_cons (ps_if (PW.pt (pw_or (pt_cmpR op_gt (pe_callB call_len_str (by rfl) T.b_len (by decide +kernel) (pa_cons (pv 3) pa_nil)) (pe_glob (v := .int (10)) rfl T.g_LONGEST_NUMBER ⟨_, rfl⟩) (nomark _)) (pw_or1 (pt_cmpR op_gt (pe_callTy call_int_str (by rfl) T.b_int (by decide +kernel) (pa_cons (pv 3) pa_nil)) (pe_glob (v := .int (2147483647)) rfl T.g_GREATEST_NUMBER ⟨_, rfl⟩) (nomark _))))) (pss_one (ps_raise rfl (takes_of rfl rfl rfl rfl) (pmk_oex T.ox_ScanError.oex T.iC_ScanError T.tS G_sup (hr.mono (by decide)) T.bdS .nil pass0 rfl T.g_ScanError (pa_cons pe_str (pa_cons (pv 2) pa_nil))))) pss_nil)
      (pss_one (ps_ret (pe_tup (pa_cons pe_str (pa_cons (pe_callTy call_int_str (by rfl) T.b_int (by decide +kernel) (pa_cons (pv 3) pa_nil)) (pa_cons (pe_callB call_len_str (by rfl) T.b_len (by decide +kernel) (pa_cons (pv 3) pa_nil)) pa_nil)))))))))), ?_⟩
    refine ⟨_, rfl, _, rfl, cs, i, zD, rfl, by omega, hn, ?_⟩
    refine ⟨_, rfl, _, rfl, _, rfl, _, rfl, hsl, _, _, rfl, rfl, _, rfl, _, rfl, _, rfl, _, rfl, hsl, _, _, rfl, rfl, _, _, rfl, rfl, _, rfl, _, rfl, (by rw [sl_len]; omega), ?_⟩
    rw [hcut]
    cases hb : cs[i + (runOf zD (cs.drop i)).length]? with
    | none =>
      have ht : (cs.drop (i + (runOf zD (cs.drop i)).length)).take 1 = [] := by
        have := List.getElem?_eq_none_iff.mp hb
        rw [List.drop_eq_nil_of_le this]
        rfl
      rw [ht]
      have ng : ¬ ∃ c, (cs.drop i)[(runOf zD (cs.drop i)).length]? = some c ∧ isIn zN c = true := by
        rintro ⟨c, h, _⟩
        rw [hat, hb] at h
        cases h
      refine ⟨_, rfl, rfl, _, rfl, ite3 (fun c1 => absurd c1 (by decide +kernel)) (fun c1 => ?_)⟩
      refine ite3 (fun z => by cases z) (fun _ => ?_)
      refine ⟨_, rfl, _, rfl, hsl, _, _, rfl, rfl, _, rfl, ite3 (fun c2 => ?_) (fun c2 => ?_)⟩
      · have e2 : 10 < (runOf zD (cs.drop i)).length := by
          have := of_decide_eq_true c2
          rw [sl_len] at this
          omega
        refine ⟨_, rfl, (by show 2 ≤ 1000; omega), fun x nx => ⟨x, a.C_ScanError, pl, _, l, c, rfl, T.ox_ScanError, upd_same, SqT.of (by rw [upd_ne (ne_of_none hpl nx)]; exact hpl), fun d nd ne => ?_⟩⟩
        refine ⟨rfl, d, _, by rw [upd_ne ne.symm, upd_same], upd_same, by rw [upd_ne ne] at nd; exact nd, ?_⟩
        rw [upd_del nx ne]
        refine qe ?_ d _ (Same.refl H) (by rw [upd_ne ne] at nd; exact nd)
        unfold numF
        rw [if_neg ng, if_pos (.inl e2)]
      · have e2 : ¬ 10 < (runOf zD (cs.drop i)).length := by
          have := of_decide_eq_false c2
          rw [sl_len] at this
          omega
        have rd := num_read hx0 hxd (by omega)
        have l640 : (sl (runOf zD (cs.drop i))).length ≤ 640 := by rw [sl_len]; omega
        refine ⟨_, rfl, _, _, rfl, rd, l640, _, _, rfl, rfl, _, rfl, ite3 (fun c3 => ?_) (fun c3 => ?_)⟩
        · have e3 : 2147483647 < numV (cs.drop i) := of_decide_eq_true c3
          refine ⟨_, rfl, (by show 2 ≤ 1000; omega), fun x nx => ⟨x, a.C_ScanError, pl, _, l, c, rfl, T.ox_ScanError, upd_same, SqT.of (by rw [upd_ne (ne_of_none hpl nx)]; exact hpl), fun d nd ne => ?_⟩⟩
          refine ⟨rfl, d, _, by rw [upd_ne ne.symm, upd_same], upd_same, by rw [upd_ne ne] at nd; exact nd, ?_⟩
          rw [upd_del nx ne]
          refine qe ?_ d _ (Same.refl H) (by rw [upd_ne ne] at nd; exact nd)
          unfold numF
          rw [if_neg ng, if_pos (.inr e3)]
        · have e3 : ¬ 2147483647 < numV (cs.drop i) := of_decide_eq_false c3
          refine ⟨_, rfl, _, _, rfl, rd, l640, _, rfl, _, rfl, hsl, (by show 3 ≤ sizeLine; decide), fun p2 np2 => ?_⟩
          rw [sl_len]
          refine qn _ _ _ ?_ p2 _ (Same.refl H) np2
          unfold numF
          rw [if_neg ng, if_neg (fun z => z.elim e2 e3)]
    | some y =>
      have ht : (cs.drop (i + (runOf zD (cs.drop i)).length)).take 1 = [y] := by
        obtain ⟨h1, h2⟩ := List.getElem?_eq_some_iff.mp hb
        rw [List.drop_eq_getElem_cons h1, h2]
        rfl
      rw [ht]
      refine ⟨_, rfl, rfl, _, rfl, ite3 (fun c1 => ?_) (fun c1 => absurd c1 ?_)⟩
      · refine ⟨_, rfl, y, zN, rfl, rfl, _, rfl, ite3 (fun c4 => ?_) (fun c4 => ?_)⟩
        · have ps : ∃ c, (cs.drop i)[(runOf zD (cs.drop i)).length]? = some c ∧ isIn zN c = true := ⟨y, by rw [hat, hb], c4⟩
          refine ⟨_, rfl, (by show 2 ≤ 1000; omega), fun x nx => ⟨x, a.C_ScanError, pl, _, l, c, rfl, T.ox_ScanError, upd_same, SqT.of (by rw [upd_ne (ne_of_none hpl nx)]; exact hpl), fun d nd ne => ?_⟩⟩
          refine ⟨rfl, d, _, by rw [upd_ne ne.symm, upd_same], upd_same, by rw [upd_ne ne] at nd; exact nd, ?_⟩
          rw [upd_del nx ne]
          refine qe ?_ d _ (Same.refl H) (by rw [upd_ne ne] at nd; exact nd)
          unfold numF
          rw [if_pos ps]
        · have ng : ¬ ∃ c, (cs.drop i)[(runOf zD (cs.drop i)).length]? = some c ∧ isIn zN c = true := by
            rintro ⟨c, h, h2⟩
            rw [hat, hb] at h
            obtain rfl := Option.some.inj h
            exact ne_true_of_eq_false c4 h2
          refine ⟨_, rfl, _, rfl, hsl, _, _, rfl, rfl, _, rfl, ite3 (fun c2 => ?_) (fun c2 => ?_)⟩
          · have e2 : 10 < (runOf zD (cs.drop i)).length := by
              have := of_decide_eq_true c2
              rw [sl_len] at this
              omega
            refine ⟨_, rfl, (by show 2 ≤ 1000; omega), fun x nx => ⟨x, a.C_ScanError, pl, _, l, c, rfl, T.ox_ScanError, upd_same, SqT.of (by rw [upd_ne (ne_of_none hpl nx)]; exact hpl), fun d nd ne => ?_⟩⟩
            refine ⟨rfl, d, _, by rw [upd_ne ne.symm, upd_same], upd_same, by rw [upd_ne ne] at nd; exact nd, ?_⟩
            rw [upd_del nx ne]
            refine qe ?_ d _ (Same.refl H) (by rw [upd_ne ne] at nd; exact nd)
            unfold numF
            rw [if_neg ng, if_pos (.inl e2)]
          · have e2 : ¬ 10 < (runOf zD (cs.drop i)).length := by
              have := of_decide_eq_false c2
              rw [sl_len] at this
              omega
            have rd := num_read hx0 hxd (by omega)
            have l640 : (sl (runOf zD (cs.drop i))).length ≤ 640 := by rw [sl_len]; omega
            refine ⟨_, rfl, _, _, rfl, rd, l640, _, _, rfl, rfl, _, rfl, ite3 (fun c3 => ?_) (fun c3 => ?_)⟩
            · have e3 : 2147483647 < numV (cs.drop i) := of_decide_eq_true c3
              refine ⟨_, rfl, (by show 2 ≤ 1000; omega), fun x nx => ⟨x, a.C_ScanError, pl, _, l, c, rfl, T.ox_ScanError, upd_same, SqT.of (by rw [upd_ne (ne_of_none hpl nx)]; exact hpl), fun d nd ne => ?_⟩⟩
              refine ⟨rfl, d, _, by rw [upd_ne ne.symm, upd_same], upd_same, by rw [upd_ne ne] at nd; exact nd, ?_⟩
              rw [upd_del nx ne]
              refine qe ?_ d _ (Same.refl H) (by rw [upd_ne ne] at nd; exact nd)
              unfold numF
              rw [if_neg ng, if_pos (.inr e3)]
            · have e3 : ¬ 2147483647 < numV (cs.drop i) := of_decide_eq_false c3
              refine ⟨_, rfl, _, _, rfl, rd, l640, _, rfl, _, rfl, hsl, (by show 3 ≤ sizeLine; decide), fun p2 np2 => ?_⟩
              rw [sl_len]
              refine qn _ _ _ ?_ p2 _ (Same.refl H) np2
              unfold numF
              rw [if_neg ng, if_neg (fun z => z.elim e2 e3)]
      · have e : decide (V.str (sl [y]) = V.str "") = false := decide_eq_false fun z => by
          have z1 : sl [y] = ("" : Str) := by injection z
          have z2 : (sl [y]).length = ("" : Str).length := congrArg Str.length z1
          rw [sl_len] at z2
          have z3 : (Str.ofString "").length = 0 := rfl
          simp [z3] at z2
        rw [e]
        decide
end

theorem tokF_cons (c : Nat) (t : List Nat) : tokF (c :: t) =
    if isIn zL c = true then wordF (c :: t)
    else if isIn zD c = true then numF (c :: t)
    else if inV (.str (sl ((c :: t).take 2))) vLONG = true then some (.str "sign", .str (sl ((c :: t).take 2)), 2)
    else if isIn zS c = true then some (.str "sign", .str (sl [c]), 1)
    else none := rfl
section
variable {P : Program} {w : World} {K : PySem.W.Frag} {mg : Str → Option Value} {base : Heap} {a : Ad}
theorem ok_token_at (T : Txt K mg a) (hP : PrgOk P a.file) : FnOk P w K mg base (L2.CX P w) 6 a.f_token_at a.d_token_at ["row", "at", "place"] (spTok a.C_ScanError (fun _ => True) tokF) := by
  have G_sup : FnOk P w K mg base CX0 1 _ _ _ _ := ok_SourceError T.sup hP T.b_super T.stS
  have G_word_at : FnOk P w K mg base (L2.CX P w) 4 _ _ _ _ := ok_word_at T hP
  have G_number_at : FnOk P w K mg base (L2.CX P w) 4 _ _ _ _ := ok_number_at T hP
  refine T.F__token_at.okX sc_token_at (fun vs H Q E h => ?_) (fun cdv A outer s H vs Q E hr h => ?_)
  · obtain ⟨_, _, _, _, _, _, rfl, _⟩ := h; rfl
  · obtain ⟨cs, i, x, pl, l, c, rfl, hx, _, hn, hpl, qe, qn⟩ := h
    have hz := sizeLine_eq
    obtain ⟨hi, hxe⟩ := List.getElem?_eq_some_iff.mp hx
    have hsl : (sl cs).length ≤ sizeLine := by rw [sl_len]; omega
    have hat : atI (sl cs).cps.toList (i : Int) = some x := atI_nat (by rw [sl_list]; exact hx)
    have hd : cs.drop i = x :: cs.drop (i + 1) := by rw [List.drop_eq_getElem_cons hi, hxe]
    have hcut : cutS (sl cs) (some (i : Int)) (some ((i : Int) + 2)) = sl ((cs.drop i).take 2) := by
      rw [show (i : Int) + 2 = ((i + 2 : Nat) : Int) by omega, cut_nat _ _ _ (by omega), show i + 2 - i = 2 by omega]
    rw [hd] at hcut
    rw [hd, tokF_cons] at qe qn
    refine ⟨_, (pss_cons (ps_if (pt_cmpR op_in_sign (pe_ix ix_str (pv 0) (pv 1) (fun _ _ => rfl)) (pe_glob (v := .str "abcdefghijklmnopqrstuvwxyz") rfl T.g_LETTERS ⟨_, rfl⟩) rfl) (pss_one (ps_ret (pe_call G_word_at (hr.mono (by decide)) rfl T.g__word_at T.k__word_at T.bd__word_at .nil (passes_call (takes_of rfl rfl rfl rfl) fun _ _ _ _ z => z) (pa_cons (pv 0) (pa_cons (pv 1) (pa_cons (pv 2) pa_nil)))))) pss_nil)
      (pss_cons (ps_if (pt_cmpR op_in_sign (pe_ix ix_str (pv 0) (pv 1) (fun _ _ => rfl)) (pe_glob (v := .str "0123456789") rfl T.g_DIGITS ⟨_, rfl⟩) rfl) (pss_one (ps_ret (pe_call G_number_at (hr.mono (by decide)) rfl T.g__number_at T.k__number_at T.bd__number_at .nil (passes_call (takes_of rfl rfl rfl rfl) fun _ _ _ _ z => z) (pa_cons (pv 0) (pa_cons (pv 1) (pa_cons (pv 2) pa_nil)))))) pss_nil)
      (pss_cons (ps_if (pt_cmpR op_inS (pe_slice sl_str (pv 0) (po_some (pv 1)) (po_some (pe_op op_add (pv 1) pe_int))) (pe_glob (v := .ref a.c_LONG_SIGNS) rfl T.g_LONG_SIGNS rfl) rfl) (pss_one (ps_ret (pe_tup (pa_cons pe_str (pa_cons (pe_slice sl_str (pv 0) (po_some (pv 1)) (po_some (pe_op op_add (pv 1) pe_int))) (pa_cons pe_int pa_nil)))))) pss_nil)
      (pss_cons (ps_if (pt_cmpR op_in_sign (pe_ix ix_str (pv 0) (pv 1) (fun _ _ => rfl)) (pe_glob (v := .str "(),:;'|+-*/=<>") rfl T.g_SHORT_SIGNS ⟨_, rfl⟩) rfl) (pss_one (ps_ret (pe_tup (pa_cons pe_str (pa_cons (pe_ix ix_str (pv 0) (pv 1) (fun _ _ => rfl)) (pa_cons pe_int pa_nil)))))) pss_nil)
      (pss_one (ps_raise rfl (takes_of rfl rfl rfl rfl) (pmk_oex T.ox_ScanError.oex T.iC_ScanError T.tS G_sup (hr.mono (by decide)) T.bdS .nil pass0 rfl T.g_ScanError (pa_cons pe_str (pa_cons (pv 2) pa_nil))))))))), ?_⟩
    refine ⟨_, rfl, _, rfl, _, _, x, rfl, rfl, hsl, hat, _, _, rfl, rfl, _, rfl, ite3 (fun c1 => ?_) (fun c1 => ?_)⟩
    · have c1' : isIn zL x = true := c1
      rw [if_pos c1'] at qe qn
      rw [← hd] at qe qn
      exact ⟨_, rfl, _, rfl, _, rfl, cs, i, x, pl, l, c, rfl, hx, trivial, hn, hpl, qe, qn⟩
    · have c1' : ¬ isIn zL x = true := ne_true_of_eq_false c1
      rw [if_neg c1'] at qe qn
      refine ⟨_, rfl, _, rfl, _, _, x, rfl, rfl, hsl, hat, _, _, rfl, rfl, _, rfl, ite3 (fun c2 => ?_) (fun c2 => ?_)⟩
      · have c2' : isIn zD x = true := c2
        rw [if_pos c2'] at qe qn
        rw [← hd] at qe qn
        exact ⟨_, rfl, _, rfl, _, rfl, cs, i, x, pl, l, c, rfl, hx, c2', hn, hpl, qe, qn⟩
      · have c2' : ¬ isIn zD x = true := ne_true_of_eq_false c2
        rw [if_neg c2'] at qe qn
        refine ⟨_, rfl, _, rfl, _, rfl, _, rfl, _, _, rfl, rfl, _, rfl, _, rfl, hsl, a.c_LONG_SIGNS, vLONG, rfl, .inr (T.q_LONG_SIGNS _), rfl, by decide +kernel, _, rfl, ite3 (fun c3 => ?_) (fun c3 => ?_)⟩
        · rw [hcut] at c3
          rw [if_pos c3] at qe qn
          refine ⟨_, rfl, _, rfl, _, rfl, _, rfl, _, _, rfl, rfl, _, rfl, _, rfl, hsl, (by show 3 ≤ sizeLine; decide), fun p2 np2 => ?_⟩
          rw [hcut]
          exact qn _ _ _ rfl p2 _ (Same.refl H) np2
        · rw [hcut] at c3
          rw [if_neg (ne_true_of_eq_false c3)] at qe qn
          refine ⟨_, rfl, _, rfl, _, _, x, rfl, rfl, hsl, hat, _, _, rfl, rfl, _, rfl, ite3 (fun c4 => ?_) (fun c4 => ?_)⟩
          · have c4' : isIn zS x = true := c4
            rw [if_pos c4'] at qe qn
            refine ⟨_, rfl, _, rfl, _, _, x, rfl, rfl, hsl, hat, (by show 3 ≤ sizeLine; decide), fun p2 np2 => ?_⟩
            exact qn _ _ _ rfl p2 _ (Same.refl H) np2
          · have c4' : ¬ isIn zS x = true := ne_true_of_eq_false c4
            rw [if_neg c4'] at qe qn
            refine ⟨_, rfl, (by show 2 ≤ 1000; omega), fun x nx => ⟨x, a.C_ScanError, pl, _, l, c, rfl, T.ox_ScanError, upd_same, SqT.of (by rw [upd_ne (ne_of_none hpl nx)]; exact hpl), fun d nd ne => ?_⟩⟩
            refine ⟨rfl, d, _, by rw [upd_ne ne.symm, upd_same], upd_same, by rw [upd_ne ne] at nd; exact nd, ?_⟩
            rw [upd_del nx ne]
            exact qe rfl d _ (Same.refl H) (by rw [upd_ne ne] at nd; exact nd)
end

/-! ### one row -/
abbrev Tk4 := V × V × Nat × Nat
inductive Toks (H : Hp) : List V → List Tk4 → Prop where
  | nil : Toks H [] []
  | cons {q : Addr} {k v : V} {l c : Nat} {vs : List V} {ts : List Tk4} (h : H q = some (.tup [k, v, .int (l : Int), .int (c : Int)])) (r : Toks H vs ts) : Toks H (.ref q :: vs) ((k, v, l, c) :: ts)
def KTu (H H' : Hp) : Prop := ∀ b xs, H b = some (.tup xs) → H' b = some (.tup xs)
theorem Toks.keep {H H' : Hp} (k : KTu H H') : ∀ {vs : List V} {ts : List Tk4}, Toks H vs ts → Toks H' vs ts
  | _, _, .nil => .nil
  | _, _, .cons h r => .cons (k _ _ h) (r.keep k)
theorem Toks.app {H : Hp} : ∀ {vs ws : List V} {ts us : List Tk4}, Toks H vs ts → Toks H ws us → Toks H (vs ++ ws) (ts ++ us)
  | _, _, _, _, .nil, y => y
  | _, _, _, _, .cons h r, y => .cons h (r.app y)
theorem Toks.len {H : Hp} : ∀ {vs : List V} {ts : List Tk4}, Toks H vs ts → vs.length = ts.length
  | _, _, .nil => rfl
  | _, _, .cons _ r => congrArg (· + 1) r.len
inductive RowR (l : Nat) : List Nat → Nat → List Tk4 → Option Nat → Prop where
  | nil {c : Nat} : RowR l [] c [] none
  | rem {r : List Nat} {c : Nat} (h : r.take 2 = [45, 45]) : RowR l r c [] none
  | spc {t : List Nat} {c : Nat} {ts : List Tk4} {e : Option Nat} (r : RowR l t (c + 1) ts e) : RowR l (32 :: t) c ts e
  | bad {x : Nat} {t : List Nat} {c : Nat} (hx : x ≠ 32) (hr : (x :: t).take 2 ≠ [45, 45]) (h : tokF (x :: t) = none) : RowR l (x :: t) c [] (some c)
  | tok {x : Nat} {t : List Nat} {c n : Nat} {k v : V} {ts : List Tk4} {e : Option Nat} (hx : x ≠ 32) (hr : (x :: t).take 2 ≠ [45, 45]) (h : tokF (x :: t) = some (k, v, n)) (r : RowR l ((x :: t).drop n) (c + n) ts e) : RowR l (x :: t) c ((k, v, l, c) :: ts) e
def spRow (C : Addr) : Sp := fun vs H Q E => ∃ (cs : List Nat) (l : Nat), vs = [.str (sl cs), .int (l : Int)] ∧ cs.length ≤ 10000 ∧
  (∀ ts (c : Nat), RowR l cs 1 ts (some c) → ScE C (.int (l : Int)) (.int (c : Int)) H E) ∧
  ∀ ts, RowR l cs 1 ts none → ∀ p xs H1, Same H H1 → H p = none → H1 p = some (.lst xs) → Toks H1 xs ts → xs.length ≤ cs.length → Q (.ref p) H1
theorem run_pos {z : Str} {x : Nat} {t : List Nat} (h : isIn z x = true) : 1 ≤ (runOf z (x :: t)).length := by
  have := runOf_pos (z := z) (r := x :: t) (c := x) rfl h
  exact List.length_pos_iff.mpr this
theorem zL_N {x : Nat} (h : isIn zL x = true) : isIn zN x = true := by
  have e : ∀ y ∈ zL.cps.toList, y ∈ zN.cps.toList := by decide +kernel
  unfold isIn at h ⊢
  exact decide_eq_true (e x (of_decide_eq_true h))
theorem wordF_len {r : List Nat} {k v : V} {n : Nat} (h : wordF r = some (k, v, n)) : n = (runOf zN r).length := by
  unfold wordF at h
  split at h
  · injection h with h; injection h with _ h; injection h with _ h; exact h.symm
  · split at h
    · cases h
    · injection h with h; injection h with _ h; injection h with _ h; exact h.symm
theorem numF_len {r : List Nat} {k v : V} {n : Nat} (h : numF r = some (k, v, n)) : n = (runOf zD r).length := by
  unfold numF at h
  split at h
  · cases h
  · split at h
    · cases h
    · injection h with h; injection h with _ h; injection h with _ h; exact h.symm
theorem tokF_pos {x : Nat} {t : List Nat} {k v : V} {n : Nat} (h : tokF (x :: t) = some (k, v, n)) : 1 ≤ n := by
  rw [tokF_cons] at h
  split at h
  · rename_i c
    rw [wordF_len h]
    exact run_pos (zL_N c)
  · split at h
    · rename_i c
      rw [numF_len h]
      exact run_pos c
    · split at h
      · injection h with h; injection h with _ h; injection h with _ h; omega
      · split at h
        · injection h with h; injection h with _ h; injection h with _ h; omega
        · cases h
theorem sl_inj {a b : List Nat} (h : sl a = sl b) : a = b := by
  have := congrArg (fun z => z.cps.toList) h
  simpa [sl] using this
theorem dash_eq (r : List Nat) : decide (V.str (sl r) = V.str "--") = decide (r = [45, 45]) := by
  have e : ("--" : Str) = sl [45, 45] := by decide +kernel
  rw [e]
  by_cases h : r = [45, 45]
  · rw [h, decide_eq_true rfl, decide_eq_true rfl]
  · rw [decide_eq_false h, decide_eq_false fun z => h (sl_inj (by injection z))]
theorem spc_eq (x : Nat) : decide (V.str ⟨#[x]⟩ = V.str " ") = decide (x = 32) := by
  have e : (" " : Str) = sl [32] := by decide +kernel
  rw [e]
  show decide (V.str (sl [x]) = V.str (sl [32])) = _
  by_cases h : x = 32
  · rw [h, decide_eq_true rfl, decide_eq_true rfl]
  · rw [decide_eq_false h, decide_eq_false fun z => h ?_]
    have z1 : sl [x] = sl [32] := by injection z
    simpa using sl_inj z1
theorem Same.tr {H H1 H2 : Hp} (x : Same H H1) (y : Same H1 H2) : Same H H2 := fun b o e => y b o (x b o e)
section
variable {P : Program} {w : World} {K : PySem.W.Frag} {mg : Str → Option Value} {base : Heap} {a : Ad}
theorem ok_scan_row (T : Txt K mg a) (hP : PrgOk P a.file) : FnOk P w K mg base (L2.CX P w) 8 a.f_scan_row a.d_scan_row ["row", "line"] (spRow a.C_ScanError) := by
  have G_token_at : FnOk P w K mg base (L2.CX P w) 6 _ _ _ _ := ok_token_at T hP
  refine T.F__scan_row.okX sc_scan_row (fun vs H Q E h => ?_) (fun cdv A outer s H vs Q E hr h => ?_)
  · obtain ⟨_, _, rfl, _⟩ := h; rfl
  · obtain ⟨cs, l, rfl, hn, qe, qn⟩ := h
    have hz := sizeLine_eq
    have hsl : (sl cs).length ≤ sizeLine := by rw [sl_len]; omega
    refine ⟨_, (pss_cons (ps_set (i := 2) sc_scan_row.nd rfl (Or.inl rfl) (pe_lst pa_nil))
      (pss_cons (ps_set (i := 3) sc_scan_row.nd rfl (Or.inl rfl) pe_int)
      (pss_cons (ps_while (passes_of rfl) (PW.pt (pw_and (pt_cmpR op_lt (pv 3) (pe_callB call_len_str (by rfl) T.b_len (by decide +kernel) (pa_cons (pv 0) pa_nil)) (nomark _)) (pw_and1 (pt_cmpR op_ne (pe_slice sl_str (pv 0) (po_some (pv 3)) (po_some (pe_op op_add (pv 3) pe_int))) pe_str (nomark _))))) (pss_one (ps_if (pt_cmpR op_eq (pe_ix ix_str (pv 0) (pv 3) (fun _ _ => rfl)) pe_str (nomark _)) (pss_one (ps_aug (i := 3) sc_scan_row.nd rfl (Or.inl rfl) pe_int ip_add)) (pss_cons (ps_asg (pe_call G_token_at (hr.mono (by decide)) rfl T.g__token_at T.k__token_at T.bd__token_at .nil (passes_call (takes_of rfl rfl rfl rfl) fun _ _ _ _ z => z) (pa_cons (pv 0) (pa_cons (pv 3) (pa_cons (pe_tup (pa_cons (pv 1) (pa_cons (pe_op op_add (pv 3) pe_int) pa_nil))) pa_nil)))) (pg_tup rfl (pgs_cons (pg_name (i := 4) sc_scan_row.nd rfl (Or.inl rfl)) (pgs_cons (pg_name (i := 5) sc_scan_row.nd rfl (Or.inl rfl)) (pgs_cons (pg_name (i := 6) sc_scan_row.nd rfl (Or.inl rfl)) pgs_nil)))))
      (pss_cons (ps_expr (pe_bm PySem.F.plainAttrs_list PySem.F.slot_list_append PySem.F.type_list_append mt_append (pv 2) (pa_cons (pe_tup (pa_cons (pv 4) (pa_cons (pv 5) (pa_cons (pv 1) (pa_cons (pe_op op_add (pv 3) pe_int) pa_nil))))) pa_nil)))
      (pss_one (ps_aug (i := 3) sc_scan_row.nd rfl (Or.inl rfl) (pv 6) ip_add)))))))
      (pss_one (ps_ret (pv 2)))))), ?_⟩
    refine ⟨(by decide), fun p np => ?_⟩
    refine ⟨fun m σ H1 => ∃ (i : Nat) (xs : List V) (acc : List Tk4) (o1 o2 o3 : Option V), σ = [some (.str (sl cs)), some (.int (l : Int)), some (.ref p), some (.int (i : Int)), o1, o2, o3] ∧ Same H H1 ∧ H1 p = some (.lst xs) ∧ Toks H1 xs acc ∧ xs.length ≤ i ∧ (i ≤ cs.length ∨ True) ∧ xs.length ≤ cs.length ∧ m = cs.length - i ∧
      ∀ ts e, RowR l (cs.drop i) (i + 1) ts e → RowR l cs 1 (acc ++ ts) e, ⟨_, 0, [], [], none, none, none, rfl, sN (Same.refl H) np, upd_same, .nil, Nat.le_refl _, .inr trivial, Nat.zero_le _, rfl, fun ts e h => h⟩, ?_⟩
    rintro m σ H1 ⟨i, xs, acc, o1, o2, o3, rfl, s1, hp, tk, hxi, _, hxc, rfl, fw⟩
    have done : RowR l (cs.drop i) (i + 1) [] none → Q (.ref p) H1 := fun h => by
      have h2 := fw _ _ h
      rw [List.append_nil] at h2
      exact qn _ h2 p xs H1 s1 np hp tk hxc
    have hcut : cutS (sl cs) (some (i : Int)) (some ((i : Int) + 2)) = sl ((cs.drop i).take 2) ∨ cs.length < i := by
      by_cases h : i ≤ cs.length
      · refine .inl ?_
        rw [show (i : Int) + 2 = ((i + 2 : Nat) : Int) by omega, cut_nat _ _ _ h, show i + 2 - i = 2 by omega]
      · exact .inr (by omega)
    refine ⟨_, rfl, _, rfl, _, rfl, hsl, _, _, rfl, rfl, _, rfl, ite3 (fun c1 => ?_) (fun c1 => ?_)⟩
    · have hi : i < cs.length := by
        have := of_decide_eq_true c1
        rw [sl_len] at this
        omega
      have hcut := hcut.resolve_right (by omega)
      have hd : cs.drop i = cs[i] :: cs.drop (i + 1) := List.drop_eq_getElem_cons hi
      have hat : atI (sl cs).cps.toList (i : Int) = some cs[i] := atI_nat (by rw [sl_list]; simp [hi])
      refine ⟨_, rfl, _, rfl, _, rfl, _, rfl, _, _, rfl, rfl, _, rfl, _, rfl, hsl, rfl, _, rfl, ite3 (fun c2 => ?_) (fun c2 => ?_)⟩
      · rw [hcut, dash_eq] at c2
        have nr : (cs.drop i).take 2 ≠ [45, 45] := by simpa using c2
        refine ⟨fun σ' H' => ∃ m', m' < cs.length - i ∧ ∃ (i : Nat) (xs : List V) (acc : List Tk4) (o1 o2 o3 : Option V), σ' = [some (.str (sl cs)), some (.int (l : Int)), some (.ref p), some (.int (i : Int)), o1, o2, o3] ∧ Same H H' ∧ H' p = some (.lst xs) ∧ Toks H' xs acc ∧ xs.length ≤ i ∧ (i ≤ cs.length ∨ True) ∧ xs.length ≤ cs.length ∧ m' = cs.length - i ∧
          ∀ ts e, RowR l (cs.drop i) (i + 1) ts e → RowR l cs 1 (acc ++ ts) e, fun σ' H' h => h, ?_⟩
        refine ⟨_, rfl, _, rfl, _, _, cs[i], rfl, rfl, hsl, hat, rfl, _, rfl, ite3 (fun c3 => ?_) (fun c3 => ?_)⟩
        · rw [spc_eq] at c3
          have e32 : cs[i] = 32 := of_decide_eq_true c3
          refine ⟨_, rfl, _, _, rfl, rfl, cs.length - (i + 1), by omega, i + 1, xs, acc, o1, o2, o3, rfl, s1, hp, tk, by omega, .inr trivial, hxc, rfl, fun ts e h => fw ts e ?_⟩
          rw [hd, e32]
          exact .spc h
        · rw [spc_eq] at c3
          have n32 : cs[i] ≠ 32 := of_decide_eq_false c3
          have hd' := hd
          have hxe : cs[i]? = some cs[i] := List.getElem?_eq_getElem hi
          refine ⟨_, rfl, _, rfl, _, rfl, _, rfl, _, _, rfl, rfl, (by show 2 ≤ sizeLine; decide), fun pl npl => ?_⟩
          have sl1 : ∀ o, Same H1 (upd H1 pl o) := fun o => sN (Same.refl H1) npl
          refine ⟨cs, i, cs[i], pl, .int (l : Int), .int ((i : Int) + 1), rfl, hxe, trivial, hn, upd_same, fun e => ?_, fun k v n e p2 H2 s2 np2 => ?_⟩
          · rw [hd] at nr e
            have h2 := fw [] (some (i + 1)) (by rw [hd]; exact .bad n32 nr e)
            exact (qe _ _ h2).mono (Same.tr s1 (sl1 _))
          · have hn1 : 1 ≤ n := by rw [hd] at e; exact tokF_pos e
            have sa : Same H1 (upd H2 p2 (.tup [k, v, .int (n : Int)])) := Same.tr (Same.tr (sl1 _) s2) (sN (Same.refl H2) np2)
            refine ⟨p2, [k, v, .int (n : Int)], rfl, SqT.of upd_same, rfl, k, [v, .int (n : Int)], rfl, v, [.int (n : Int)], rfl, .int (n : Int), [], rfl, rfl, ?_⟩
            refine ⟨_, rfl, .inl ⟨rfl, _, SqL.of (sa _ _ hp)⟩, _, rfl, _, rfl, _, rfl, _, rfl, _, _, rfl, rfl, (by show 4 ≤ sizeLine; decide), fun z nz => ⟨p, xs, _, rfl, rfl, by rw [upd_ne (ne_of_none (sa _ _ hp) nz)]; exact sa _ _ hp, by omega, ?_⟩⟩
            have sb := sN sa nz (o := .tup [k, v, .int (l : Int), .int ((i : Int) + 1)])
            have hpz : p ≠ z := ne_of_none (sa _ _ hp) nz
            refine ⟨_, rfl, _, rfl, _, _, rfl, rfl, cs.length - (i + n), by omega, i + n, xs ++ [.ref z], acc ++ [(k, v, l, i + 1)], _, _, _, rfl, sUpd (Same.tr s1 sb) np, upd_same, ?_, ?_, .inr trivial, ?_, rfl, fun ts e' h => ?_⟩
            · refine Toks.app (tk.keep fun b ys hb => ?_) (.cons ?_ .nil)
              · have hbp : b ≠ p := fun w => by rw [w, hp] at hb; cases hb
                rw [upd_ne hbp]
                exact sb _ _ hb
              · rw [upd_ne hpz.symm]
                exact upd_same
            · rw [List.length_append]; show xs.length + 1 ≤ i + n; omega
            · rw [List.length_append]; show xs.length + 1 ≤ cs.length; omega
            · rw [List.append_assoc]
              refine fw _ _ ?_
              rw [hd]
              refine .tok n32 (by rw [← hd]; exact nr) (by rw [← hd]; exact e) ?_
              rw [← hd, List.drop_drop, show i + 1 + n = i + n + 1 by omega]
              exact h
      · rw [hcut, dash_eq] at c2
        have nr : (cs.drop i).take 2 = [45, 45] := by simpa using c2
        exact ⟨_, rfl, done (.rem nr)⟩
    · have hge : cs.length ≤ i := by
        have := of_decide_eq_false c1
        rw [sl_len] at this
        omega
      refine ⟨_, rfl, done ?_⟩
      rw [List.drop_eq_nil_of_le hge]
      exact .nil
end

/-! ### the rows of a text -/
def rowsOf (cs : List Nat) : List (List Nat) := TL.spl [10] 0 [] cs
theorem split_nl (cs : List Nat) : Txt.split (sl cs) "\n" = (rowsOf cs).map sl := by
  have e : ("\n" : Str) = sl [10] := by decide +kernel
  rw [e]
  exact SX.split_S (a := cs) (b := [10]) (by simp) (by decide)
inductive RowsR : Nat → List (List Nat) → List Tk4 → Option (Nat × Nat) → Prop where
  | nil {l : Nat} : RowsR l [] [] none
  | bad {l c : Nat} {r : List Nat} {rs : List (List Nat)} {ts : List Tk4} (h : RowR l r 1 ts (some c)) : RowsR l (r :: rs) [] (some (l, c))
  | ok {l : Nat} {r : List Nat} {rs : List (List Nat)} {ts us : List Tk4} {e : Option (Nat × Nat)} (h : RowR l r 1 ts none) (t : RowsR (l + 1) rs us e) : RowsR l (r :: rs) (ts ++ us) e
def endOf (cs : List Nat) : Tk4 := (.str "end", .str "", (rowsOf cs).length, ((rowsOf cs).getLast?.getD []).length + 1)
def spScan0 (C CT : Addr) : Sp := fun vs H Q E => ∃ (cs : List Nat), vs = [.str (sl cs)] ∧ cs.length ≤ 100000 ∧
  (4000 < cs.length → ScE CT (.int 1) (.int 1) H E) ∧
  (cs.length ≤ 4000 → ∀ ts (l c : Nat), RowsR 1 (rowsOf cs) ts (some (l, c)) → ScE C (.int (l : Int)) (.int (c : Int)) H E) ∧
  (cs.length ≤ 4000 → ∀ ts, RowsR 1 (rowsOf cs) ts none → ∀ p xs H1, Same H H1 → H p = none → H1 p = some (.lst xs) → Toks H1 xs (ts ++ [endOf cs]) → Q (.ref p) H1)
section
variable {P : Program} {w : World} {K : PySem.W.Frag} {mg : Str → Option Value} {base : Heap} {a : Ad}
theorem ok_scan0 (T : Txt K mg a) (hP : PrgOk P a.file) : FnOk P w K mg base (L2.CX P w) 10 a.f_scan a.d_scan ["text"] (spScan0 a.C_ScanError a.C_TooLarge) := by
  have G_sup : FnOk P w K mg base CX0 1 _ _ _ _ := ok_SourceError T.sup hP T.b_super T.stS
  have G_scan_row : FnOk P w K mg base (L2.CX P w) 8 _ _ _ _ := ok_scan_row T hP
  refine T.F_scan.okX sc_scan (fun vs H Q E h => ?_) (fun cdv A outer s H vs Q E hr h => ?_)
  · obtain ⟨_, rfl, _⟩ := h; rfl
  · obtain ⟨cs, rfl, hn, ql, qe, qn⟩ := h
    have hz := sizeLine_eq
    have hsl : (sl cs).length ≤ sizeLine := by rw [sl_len]; omega
    refine ⟨_, (pss_cons (ps_if (pt_cmpR op_gt (pe_callB call_len_str (by rfl) T.b_len (by decide +kernel) (pa_cons (pv 0) pa_nil)) (pe_glob (v := .int (4000)) rfl T.g_LONGEST_TEXT ⟨_, rfl⟩) (nomark _)) (pss_one (ps_raise rfl (takes_of rfl rfl rfl rfl) (pmk_oex T.ox_TooLarge.oex T.iC_TooLarge T.tS G_sup (hr.mono (by decide)) T.bdS .nil pass0 rfl T.g_TooLarge (pa_cons pe_str (pa_cons (pe_tup (pa_cons pe_int (pa_cons pe_int pa_nil))) pa_nil))))) pss_nil)
      (pss_cons (ps_set (i := 1) sc_scan.nd rfl (Or.inl rfl) (pe_lst pa_nil))
      (pss_cons (ps_set (i := 2) sc_scan.nd rfl (Or.inl rfl) (pe_split (pv 0) pe_str))
      (pss_cons (ps_for (passes_of rfl) rfl (pi_enumS (by rfl) T.b_enumerate (by decide) (by decide) (pa_cons (pv 2) pa_nil)) (pg_tup rfl (pgs_cons (pg_name (i := 3) sc_scan.nd rfl (Or.inl rfl)) (pgs_cons (pg_name (i := 4) sc_scan.nd rfl (Or.inl rfl)) pgs_nil))) (pss_one (ps_expr (pe_bm PySem.F.plainAttrs_list PySem.F.slot_list_extend PySem.F.type_list_extend mt_extend (pv 1) (pa_cons (pe_call G_scan_row (hr.mono (by decide)) rfl T.g__scan_row T.k__scan_row T.bd__scan_row .nil (passes_call (takes_of rfl rfl rfl rfl) fun _ _ _ _ z => z) (pa_cons (pv 4) (pa_cons (pv 3) pa_nil))) pa_nil)))))
      (pss_cons (ps_expr (pe_bm PySem.F.plainAttrs_list PySem.F.slot_list_append PySem.F.type_list_append mt_append (pv 1) (pa_cons (pe_tup (pa_cons pe_str (pa_cons pe_str (pa_cons (pe_callB call_len_seq (by rfl) T.b_len (by decide +kernel) (pa_cons (pv 2) pa_nil)) (pa_cons (pe_op op_add (pe_callB call_len_str (by rfl) T.b_len (by decide +kernel) (pa_cons (pe_ix ix_list (pv 2) (pe_un un_neg pe_int) (fun _ _ => rfl)) pa_nil)) pe_int) pa_nil))))) pa_nil)))
      (pss_one (ps_ret (pv 1)))))))), ?_⟩
    refine ⟨_, rfl, _, rfl, hsl, _, _, rfl, rfl, _, rfl, ite3 (fun c1 => ?_) (fun c1 => ?_)⟩
    · have h4 : 4000 < cs.length := by
        have := of_decide_eq_true c1
        rw [sl_len] at this
        omega
      refine ⟨(by show 2 ≤ sizeLine; decide), fun pl npl => ?_⟩
      have s1 : Same H (upd H pl (.tup [.int 1, .int 1])) := sN (Same.refl H) npl
      refine ⟨(by show 2 ≤ 1000; omega), fun x nx => ⟨x, a.C_TooLarge, pl, _, .int 1, .int 1, rfl, T.ox_TooLarge, upd_same, SqT.of (by rw [upd_ne (ne_of_none upd_same nx)]; exact upd_same), fun d nd ne => ?_⟩⟩
      refine ⟨rfl, d, _, by rw [upd_ne ne.symm, upd_same], upd_same, by rw [upd_ne ne] at nd; exact nd, ?_⟩
      rw [upd_del nx ne]
      exact ql h4 d _ s1 (by rw [upd_ne ne] at nd; exact nd)
    · have h4 : cs.length ≤ 4000 := by
        have := of_decide_eq_false c1
        rw [sl_len] at this
        omega
      refine ⟨(by decide), fun p np => ?_⟩
      refine ⟨_, rfl, ⟨_, rfl⟩, _, _, rfl, rfl, rfl, (by rw [sl_len]; omega), fun q nq => ?_⟩
      rw [split_nl]
      have hrl : ∀ r ∈ rowsOf cs, r.length ≤ 4000 := fun r hr => by
        have := PyProof.Rows.part_short (x := sl cs) (y := "\n") (a := sl r) (by rw [split_nl]; exact List.mem_map_of_mem hr)
        rw [sl_len, sl_len] at this
        omega
      have hrn : (rowsOf cs).length ≤ 4002 := by
        have := PyProof.Rows.split_le (sl cs) "\n"
        rw [split_nl, List.length_map, sl_len] at this
        omega
      have hr1 : 1 ≤ (rowsOf cs).length := by
        have := PyProof.Rows.split_pos (sl cs) "\n"
        rw [split_nl, List.length_map] at this
        omega
      have npq : p ≠ q := ne_of_none upd_same nq
      refine ⟨_, rfl, q, ((rowsOf cs).map sl).map V.str, rfl, SqL.of upd_same, for_enumS (K := K) (a := q) (xs := ((rowsOf cs).map sl).map V.str) (k0 := 1)
        (fun i σ H1 => ∃ (xs : List V) (acc : List Tk4) (o1 o2 : Option V), σ = [some (.str (sl cs)), some (.ref p), some (.ref q), o1, o2] ∧ Same H H1 ∧ H1 p = some (.lst xs) ∧ H1 q = some (.lst (((rowsOf cs).map sl).map V.str)) ∧ Toks H1 xs acc ∧ xs.length ≤ i * 4000 ∧
          ∀ ts e, RowsR (1 + i) ((rowsOf cs).drop i) ts e → RowsR 1 (rowsOf cs) (acc ++ ts) e) ⟨[], [], none, none, rfl, ?_, by rw [upd_ne npq]; exact upd_same, upd_same, .nil, by simp, fun ts e h => h⟩
        (fun i σ H1 _ h => by obtain ⟨_, _, _, _, _, _, _, h, _⟩ := h; exact SqL.of h) ?_ ?_⟩
      · exact sN (sN (Same.refl H) np) nq
      · rintro i x σ H1 Tq hi ⟨xs, acc, o1, o2, rfl, s1, hp, hq, tk, hx, fw⟩ nT
        have hi' : ((rowsOf cs)[i]?).map (fun r => V.str (sl r)) = some x := by
          rw [List.getElem?_map, List.getElem?_map] at hi
          cases hh : (rowsOf cs)[i]? with
          | none => rw [hh] at hi; cases hi
          | some r => rw [hh] at hi; exact hi
        obtain ⟨r, hr, rfl⟩ := Option.map_eq_some_iff.mp hi'
        have hrm : r ∈ rowsOf cs := List.mem_of_getElem? hr
        obtain ⟨hil, hre⟩ := List.getElem?_eq_some_iff.mp hr
        have hd : (rowsOf cs).drop i = r :: (rowsOf cs).drop (i + 1) := by rw [List.drop_eq_getElem_cons hil, hre]
        have sT : Same H1 (upd H1 Tq (.tup [.int (1 + (i : Int)), .str (sl r)])) := sN (Same.refl H1) nT
        refine ⟨Tq, [.int (1 + (i : Int)), .str (sl r)], rfl, SqT.of upd_same, rfl, .int (1 + (i : Int)), [.str (sl r)], rfl, .str (sl r), [], rfl, rfl, ?_⟩
        refine ⟨_, rfl, .inl ⟨rfl, _, SqL.of (sT _ _ hp)⟩, _, rfl, _, rfl, r, 1 + i, rfl, by have := hrl r hrm; omega, fun ts c h => ?_, fun ts h p2 ys H2 s2 np2 hp2 tk2 hys => ?_⟩
        · have h2 := fw [] (some (1 + i, c)) (by rw [hd]; exact .bad h)
          exact (qe h4 _ _ _ h2).mono (Same.tr s1 sT)
        · have hp3 : H2 p = some (.lst xs) := s2 _ _ (sT _ _ hp)
          have hrr := hrl r hrm
          have sA : Same H1 H2 := Same.tr sT s2
          refine ⟨p, p2, xs, ys, rfl, rfl, hp3, hp2, by omega, ?_⟩
          refine ⟨xs ++ ys, acc ++ ts, _, _, rfl, sUpd (Same.tr s1 sA) np, upd_same, ?_, ?_, ?_, fun us e h2 => ?_⟩
          · rw [upd_ne npq.symm]
            exact sA _ _ hq
          · have kp : ∀ {G : Hp}, KTu G H2 → G p = some (.lst xs) → KTu G (upd H2 p (.lst (xs ++ ys))) := fun k hG b zs hb => by
              have hbp : b ≠ p := fun w => by rw [w, hG] at hb; cases hb
              rw [upd_ne hbp]
              exact k _ _ hb
            exact Toks.app (tk.keep (kp (fun b zs hb => sA _ _ hb) hp)) (tk2.keep (kp (fun b zs hb => hb) hp3))
          · rw [List.length_append, Nat.add_mul]; omega
          · rw [List.append_assoc]
            refine fw _ _ ?_
            rw [hd]
            exact .ok h (by rw [show 1 + i + 1 = 1 + (i + 1) by omega]; exact h2)
      · rintro σ H1 ⟨xs, acc, o1, o2, rfl, s1, hp, hq, tk, hx, fw⟩
        rw [List.length_map, List.length_map] at fw hx
        have h2 := fw [] none (by rw [List.drop_length]; exact .nil)
        rw [List.append_nil] at h2
        obtain ⟨L, b, hLb⟩ : ∃ L b, rowsOf cs = L ++ [b] := by
          rcases List.eq_nil_or_concat (rowsOf cs) with h | ⟨L, b, h⟩
          · rw [h] at hr1; cases hr1
          · exact ⟨L, b, by simpa using h⟩
        have hbm : b ∈ rowsOf cs := by rw [hLb]; simp
        have hbl := hrl b hbm
        have hat : atI (((rowsOf cs).map sl).map V.str) (-1) = some (.str (sl b)) := by
          rw [hLb, List.map_append, List.map_append]
          exact atI_last _ _
        have hend : endOf cs = (.str "end", .str "", (rowsOf cs).length, b.length + 1) := by
          unfold endOf
          rw [hLb, List.getLast?_append]
          rfl
        refine ⟨_, rfl, .inl ⟨rfl, _, SqL.of hp⟩, _, rfl, _, _, rfl, .inl (SqL.of hq), _, rfl, _, rfl, _, _, _, _, rfl, rfl, SqL.of hq, hat, _, rfl, (by rw [sl_len]; omega), _, _, rfl, rfl, (by show 4 ≤ sizeLine; decide), fun z nz => ⟨p, xs, _, rfl, rfl, by rw [upd_ne (ne_of_none hp nz)]; exact hp, by omega, ?_⟩⟩
        have hpz : p ≠ z := ne_of_none hp nz
        have sz := sN (Same.refl H1) nz (o := .tup [.str "end", .str "", .int ((((rowsOf cs).map sl).map V.str).length : Int), .int (((sl b).length : Int) + 1)])
        refine ⟨_, rfl, qn h4 _ h2 p (xs ++ [.ref z]) _ (sUpd (Same.tr s1 sz) np) np upd_same ?_⟩
        refine Toks.app (tk.keep fun b ys hb => ?_) ?_
        · have hbp : b ≠ p := fun w => by rw [w, hp] at hb; cases hb
          rw [upd_ne hbp]
          exact sz _ _ hb
        · rw [hend]
          refine .cons ?_ .nil
          rw [upd_ne hpz.symm, upd_same, List.length_map, List.length_map, sl_len]
          rfl
end

/-! ### a whole text -/
inductive TxtR : List Nat → Nat → Nat → List Tk4 → Bool × Nat × Nat → Prop where
  | nil {l c : Nat} : TxtR [] l c [] (true, l, c)
  | nl {t : List Nat} {l c : Nat} {ts : List Tk4} {e : Bool × Nat × Nat} (r : TxtR t (l + 1) 1 ts e) : TxtR (10 :: t) l c ts e
  | rem {r : List Nat} {l c : Nat} {ts : List Tk4} {e : Bool × Nat × Nat} (h : r.take 2 = [45, 45]) (t : TxtR (r.dropWhile (· != 10)) l (c + (r.takeWhile (· != 10)).length) ts e) : TxtR r l c ts e
  | spc {t : List Nat} {l c : Nat} {ts : List Tk4} {e : Bool × Nat × Nat} (r : TxtR t l (c + 1) ts e) : TxtR (32 :: t) l c ts e
  | bad {x : Nat} {t : List Nat} {l c : Nat} (hx : x ≠ 32) (hn : x ≠ 10) (hr : (x :: t).take 2 ≠ [45, 45]) (h : tokF (x :: t) = none) : TxtR (x :: t) l c [] (false, l, c)
  | tok {x : Nat} {t : List Nat} {l c n : Nat} {k v : V} {ts : List Tk4} {e : Bool × Nat × Nat} (hx : x ≠ 32) (hn : x ≠ 10) (hr : (x :: t).take 2 ≠ [45, 45]) (h : tokF (x :: t) = some (k, v, n)) (r : TxtR ((x :: t).drop n) l (c + n) ts e) : TxtR (x :: t) l c ((k, v, l, c) :: ts) e
theorem txt_det {r : List Nat} {l c : Nat} {ts : List Tk4} {e : Bool × Nat × Nat} (h : TxtR r l c ts e) : ∀ {us : List Tk4} {f : Bool × Nat × Nat}, TxtR r l c us f → ts = us ∧ e = f := by
  induction h with
  | nil => intro us f g; cases g with
    | nil => exact ⟨rfl, rfl⟩
    | rem h _ => cases h
  | nl r ih => intro us f g; cases g with
    | nl r2 => exact ih r2
    | rem h _ => exact absurd h (by simp [List.take])
    | bad _ hn _ _ => exact absurd rfl hn
    | tok _ hn _ _ _ => exact absurd rfl hn
  | rem h t ih => intro us f g; cases g with
    | nil => cases h
    | nl r2 => exact absurd h (by simp [List.take])
    | rem _ t2 => exact ih t2
    | spc _ => exact absurd h (by simp [List.take])
    | bad _ _ hr _ => exact absurd h hr
    | tok _ _ hr _ _ => exact absurd h hr
  | spc r ih => intro us f g; cases g with
    | spc r2 => exact ih r2
    | rem h _ => exact absurd h (by simp [List.take])
    | bad hx _ _ _ => exact absurd rfl hx
    | tok hx _ _ _ _ => exact absurd rfl hx
  | bad hx hn hr h => intro us f g; cases g with
    | nl _ => exact absurd rfl hn
    | rem h _ => exact absurd h hr
    | spc _ => exact absurd rfl hx
    | bad _ _ _ _ => exact ⟨rfl, rfl⟩
    | tok _ _ _ h2 _ => rw [h] at h2; cases h2
  | tok hx hn hr h r ih => intro us f g; cases g with
    | nl _ => exact absurd rfl hn
    | rem h _ => exact absurd h hr
    | spc _ => exact absurd rfl hx
    | bad _ _ _ h2 => rw [h] at h2; cases h2
    | tok _ _ _ h2 r2 =>
      rw [h] at h2
      injection h2 with h2; injection h2 with h3 h2; injection h2 with h4 h5
      subst h3; subst h4; subst h5
      obtain ⟨e1, e2⟩ := ih r2
      exact ⟨by rw [e1], e2⟩
/-- nothing, or a new row -/
def Cut (q : List Nat) : Prop := q = [] ∨ ∃ t, q = 10 :: t
theorem run_cut {z : Str} (hz : isIn z 10 = false) {q : List Nat} (hq : Cut q) : ∀ r : List Nat, runOf z (r ++ q) = runOf z r
  | [] => by
    rcases hq with rfl | ⟨t, rfl⟩
    · rfl
    · show List.takeWhile (isIn z) (10 :: t) = []
      rw [List.takeWhile_cons_of_neg (by rw [hz]; decide)]
  | x :: r => by
    show List.takeWhile (isIn z) (x :: (r ++ q)) = List.takeWhile (isIn z) (x :: r)
    by_cases h : isIn z x = true
    · rw [List.takeWhile_cons_of_pos h, List.takeWhile_cons_of_pos h]
      exact congrArg (x :: ·) (run_cut hz hq r)
    · rw [List.takeWhile_cons_of_neg h, List.takeWhile_cons_of_neg h]
theorem N10 : isIn zN 10 = false := by decide +kernel
theorem D10 : isIn zD 10 = false := by decide +kernel
def longs : List (List Nat) := [[58, 61], [61, 62], [46, 46], [47, 61], [60, 61], [62, 61]]
theorem long_eq : vLONG = longs.map fun r => V.str (sl r) := by
  have e : [(":=" : Str), "=>", "..", "/=", "<=", ">="] = longs.map sl := by decide +kernel
  have e2 : longs.map (fun r => V.str (sl r)) = (longs.map sl).map V.str := by rw [List.map_map]; rfl
  rw [e2, ← e]
  rfl
theorem str_beq {a b : Str} : (a == b) = decide (a = b) := by
  by_cases h : a = b
  · rw [decide_eq_true h, h]; exact beq_self_eq_true b
  · rw [decide_eq_false h]; exact beq_eq_false_iff_ne.mpr h
theorem inV_sl (r : List Nat) : ∀ ls : List (List Nat), inV (.str (sl r)) (ls.map fun r => V.str (sl r)) = decide (r ∈ ls)
  | [] => by simp [inV]
  | a :: ls => by
    have ih := inV_sl r ls
    unfold inV at ih ⊢
    rw [List.map_cons, List.any_cons, ih]
    have e : eqV (V.str (sl a)) (V.str (sl r)) = decide (a = r) := by
      show (sl a == sl r) = _
      rw [str_beq]
      by_cases h : a = r
      · rw [h, decide_eq_true rfl, decide_eq_true rfl]
      · rw [decide_eq_false h, decide_eq_false fun z => h (sl_inj z)]
    rw [e]
    by_cases h : a = r
    · subst h; simp
    · have h' : ¬ r = a := fun z => h z.symm
      simp [h, h']
theorem in_long (r : List Nat) : inV (.str (sl r)) vLONG = decide (r ∈ longs) := by rw [long_eq, inV_sl]
theorem tokF_cut {q : List Nat} (hq : Cut q) (x : Nat) (t : List Nat) : tokF (x :: t ++ q) = tokF (x :: t) := by
  show tokF (x :: (t ++ q)) = _
  rw [tokF_cons, tokF_cons]
  have hw : wordF (x :: (t ++ q)) = wordF (x :: t) := by
    unfold wordF
    rw [show x :: (t ++ q) = (x :: t) ++ q from rfl, run_cut N10 hq]
  have hnum : numF (x :: (t ++ q)) = numF (x :: t) := by
    unfold numF numV
    rw [show x :: (t ++ q) = (x :: t) ++ q from rfl, run_cut D10 hq]
    have e : (∃ c, ((x :: t) ++ q)[(runOf zD (x :: t)).length]? = some c ∧ isIn zN c = true) ↔ ∃ c, (x :: t)[(runOf zD (x :: t)).length]? = some c ∧ isIn zN c = true := by
      have hle := runOf_le zD (x :: t)
      by_cases h : (runOf zD (x :: t)).length < (x :: t).length
      · rw [List.getElem?_append_left h]
      · have he : (runOf zD (x :: t)).length = (x :: t).length := by omega
        rw [he, List.getElem?_append_right (Nat.le_refl _), Nat.sub_self, List.getElem?_eq_none (Nat.le_refl _)]
        constructor
        · rintro ⟨c, h1, h2⟩
          rcases hq with rfl | ⟨t', rfl⟩
          · cases h1
          · obtain rfl : 10 = c := by simpa using h1
            rw [N10] at h2; cases h2
        · rintro ⟨c, h1, _⟩; cases h1
    by_cases h : ∃ c, (x :: t)[(runOf zD (x :: t)).length]? = some c ∧ isIn zN c = true
    · rw [if_pos h, if_pos (e.mpr h)]
    · rw [if_neg h, if_neg (fun z => h (e.mp z))]
  rw [hw, hnum]
  have hl : (if inV (.str (sl ((x :: (t ++ q)).take 2))) vLONG = true then some (V.str "sign", V.str (sl ((x :: (t ++ q)).take 2)), 2)
      else if isIn zS x = true then some (V.str "sign", V.str (sl [x]), 1) else none) = (if inV (.str (sl ((x :: t).take 2))) vLONG = true then some (V.str "sign", V.str (sl ((x :: t).take 2)), 2)
      else if isIn zS x = true then some (V.str "sign", V.str (sl [x]), 1) else none) := by
    cases t with
    | cons y t => rfl
    | nil =>
      rcases hq with rfl | ⟨t', rfl⟩
      · rfl
      · have e1 : inV (.str (sl ((x :: ([] ++ 10 :: t')).take 2))) vLONG = false := by
          rw [in_long]
          simp [longs]
        have e2 : inV (.str (sl ((x :: ([] : List Nat)).take 2))) vLONG = false := by
          rw [in_long]
          simp [longs]
        rw [if_neg (ne_true_of_eq_false e1), if_neg (ne_true_of_eq_false e2)]
  rw [hl]
theorem tokF_le {x : Nat} {t : List Nat} {k v : V} {n : Nat} (h : tokF (x :: t) = some (k, v, n)) : n ≤ (x :: t).length := by
  rw [tokF_cons] at h
  split at h
  · rw [wordF_len h]; exact runOf_le _ _
  · split at h
    · rw [numF_len h]; exact runOf_le _ _
    · split at h
      · rename_i c
        injection h with h; injection h with _ h; injection h with _ h
        rw [in_long] at c
        cases t with
        | nil => simp [longs] at c
        | cons y t => show n ≤ t.length + 1 + 1; omega
      · split at h
        · injection h with h; injection h with _ h; injection h with _ h; show n ≤ t.length + 1; omega
        · cases h
theorem take2_cut {q : List Nat} (hq : Cut q) (r : List Nat) (hr : r ≠ []) : ((r ++ q).take 2 = [45, 45]) ↔ r.take 2 = [45, 45] := by
  match r, hr with
  | [x], _ =>
    rcases hq with rfl | ⟨t, rfl⟩
    · exact Iff.rfl
    · show [x, 10] = [45, 45] ↔ [x] = [45, 45]
      simp
  | x :: y :: r, _ => exact Iff.rfl
theorem dw_cut {q : List Nat} (hq : Cut q) : ∀ r : List Nat, 10 ∉ r → (r ++ q).dropWhile (· != 10) = q ∧ (r ++ q).takeWhile (· != 10) = r
  | [], _ => by
    rcases hq with rfl | ⟨t, rfl⟩
    · exact ⟨rfl, rfl⟩
    · exact ⟨rfl, rfl⟩
  | x :: r, h => by
    have hx : (x != 10) = true := by
      have : ¬ 10 = x := fun z => h (by rw [z]; exact List.mem_cons_self ..)
      simpa using fun z => this z.symm
    have ih := dw_cut hq r (fun z => h (List.mem_cons_of_mem _ z))
    show List.dropWhile (· != 10) (x :: (r ++ q)) = q ∧ List.takeWhile (· != 10) (x :: (r ++ q)) = x :: r
    rw [List.dropWhile_cons_of_pos (p := (· != 10)) hx, List.takeWhile_cons_of_pos (p := (· != 10)) hx, ih.1, ih.2]
    exact ⟨rfl, rfl⟩
theorem row_txt {l : Nat} {r : List Nat} {c : Nat} {ts : List Tk4} {e : Option Nat} (h : RowR l r c ts e) : 10 ∉ r → ∀ q, Cut q →
    (∀ k, e = some k → TxtR (r ++ q) l c ts (false, l, k)) ∧ (e = none → ∀ us f, TxtR q l (c + r.length) us f → TxtR (r ++ q) l c (ts ++ us) f) := by
  induction h with
  | nil => exact fun _ q _ => ⟨fun k e => (nomatch e), fun _ us f g => g⟩
  | rem h =>
    rename_i r c
    refine fun hr q hq => ⟨fun k e => (nomatch e), fun _ us f g => ?_⟩
    have hne : r ≠ [] := fun z => by rw [z] at h; cases h
    obtain ⟨e1, e2⟩ := dw_cut hq r hr
    exact .rem ((take2_cut hq r hne).mpr h) (by rw [e1, e2]; exact g)
  | spc r ih =>
    rename_i t c ts e
    refine fun hr q hq => ⟨fun k e => ?_, fun e us f g => ?_⟩
    · exact .spc ((ih (fun z => hr (List.mem_cons_of_mem _ z)) q hq).1 k e)
    · refine .spc ((ih (fun z => hr (List.mem_cons_of_mem _ z)) q hq).2 e us f ?_)
      rw [show c + 1 + t.length = c + (32 :: t).length by rw [List.length_cons]; omega]
      exact g
  | bad hx hr h =>
    rename_i x t c
    refine fun h10 q hq => ⟨fun k e => ?_, fun e => (nomatch e)⟩
    injection e with e
    subst e
    exact .bad hx (fun z => h10 (by rw [z]; exact List.mem_cons_self ..)) (fun z => hr ((take2_cut hq (x :: t) (by simp)).mp z)) ((tokF_cut hq x t).trans h)
  | tok hx hr h r ih =>
    rename_i x t c n k v ts e
    intro h10 q hq
    have hn : x ≠ 10 := fun z => h10 (by rw [z]; exact List.mem_cons_self ..)
    have hr' : (x :: (t ++ q)).take 2 ≠ [45, 45] := fun z => hr ((take2_cut hq (x :: t) (by simp)).mp z)
    have h' : tokF (x :: (t ++ q)) = some (k, v, n) := (tokF_cut hq x t).trans h
    have hle := tokF_le h
    have hd : (x :: (t ++ q)).drop n = (x :: t).drop n ++ q := by
      rw [show x :: (t ++ q) = (x :: t) ++ q from rfl, List.drop_append_of_le_length hle]
    have ih' := ih (fun z => h10 (List.mem_of_mem_drop z)) q hq
    refine ⟨fun k2 e => ?_, fun e us f g => ?_⟩
    · exact .tok hx hn hr' h' (by have z := ih'.1 k2 e; rw [← hd] at z; exact z)
    · refine .tok hx hn hr' h' ?_
      have z := ih'.2 e us f (by rw [List.length_drop, show c + n + ((x :: t).length - n) = c + (x :: t).length by omega]; exact g)
      rw [← hd] at z
      exact z
/-- the rows of a text one behind another -/
inductive Joined : List (List Nat) → List Nat → Prop where
  | one {r : List Nat} (h : 10 ∉ r) : Joined [r] r
  | more {r : List Nat} {rs : List (List Nat)} {t : List Nat} (h : 10 ∉ r) (j : Joined rs t) : Joined (r :: rs) (r ++ 10 :: t)
theorem rows_joined_aux : ∀ (cs acc : List Nat), 10 ∉ acc → ∃ t, Joined (TL.spl [10] 0 acc cs) t ∧ t = acc ++ cs
  | [], acc, h => ⟨acc, by rw [TL.spl_nil]; exact .one h, by simp⟩
  | x :: cs, acc, h => by
    by_cases hx : x = 10
    · subst hx
      obtain ⟨t, j, e⟩ := rows_joined_aux cs [] (by simp)
      rw [TL.spl_hit (by simp [TL.pre])]
      refine ⟨acc ++ 10 :: t, .more h j, ?_⟩
      rw [e]; rfl
    · have h2 : 10 ∉ acc ++ [x] := fun z => by
        rcases List.mem_append.mp z with z | z
        · exact h z
        · exact hx (List.mem_singleton.mp z).symm
      obtain ⟨t, j, e⟩ := rows_joined_aux cs (acc ++ [x]) h2
      rw [TL.spl_miss (by simp [TL.pre, hx])]
      exact ⟨t, j, by rw [e, List.append_assoc]; rfl⟩
theorem rows_joined (cs : List Nat) : Joined (rowsOf cs) cs := by
  obtain ⟨t, j, e⟩ := rows_joined_aux cs [] (by simp)
  rw [List.nil_append] at e
  rw [e] at j
  exact j
theorem rows_txt {rs : List (List Nat)} {t : List Nat} (j : Joined rs t) : ∀ {l : Nat} {ts : List Tk4} {e : Option (Nat × Nat)}, RowsR l rs ts e →
    (∀ l' c', e = some (l', c') → ∃ us, TxtR t l 1 us (false, l', c')) ∧ (e = none → ∃ y, rs.getLast? = some y ∧ TxtR t l 1 ts (true, l + rs.length - 1, y.length + 1)) := by
  induction j with
  | one h =>
    rename_i r
    intro l ts e g
    cases g with
    | bad g =>
      refine ⟨fun l' c' e => ?_, fun e => (nomatch e)⟩
      injection e with e; injection e with e1 e2; subst e1; subst e2
      have k := ((row_txt g h) [] (.inl rfl)).1 _ rfl
      rw [List.append_nil] at k
      exact ⟨_, k⟩
    | ok g t =>
      cases t
      refine ⟨fun l' c' e => (nomatch e), fun _ => ⟨r, rfl, ?_⟩⟩
      have k := ((row_txt g h) [] (.inl rfl)).2 rfl [] (true, l, 1 + r.length) .nil
      rw [List.append_nil] at k
      rw [show l + [r].length - 1 = l by simp, show r.length + 1 = 1 + r.length by omega]
      exact k
  | more h j ih =>
    rename_i r rs t
    intro l ts e g
    cases g with
    | bad g =>
      refine ⟨fun l' c' e => ?_, fun e => (nomatch e)⟩
      injection e with e; injection e with e1 e2; subst e1; subst e2
      exact ⟨_, ((row_txt g h) (10 :: t) (.inr ⟨_, rfl⟩)).1 _ rfl⟩
    | ok g t2 =>
      obtain ⟨i1, i2⟩ := ih t2
      have k := fun us f (x : TxtR t (l + 1) 1 us f) => ((row_txt g h) (10 :: t) (.inr ⟨_, rfl⟩)).2 rfl us f (.nl x)
      refine ⟨fun l' c' e => ?_, fun e => ?_⟩
      · obtain ⟨us, x⟩ := i1 l' c' e
        exact ⟨_, k _ _ x⟩
      · obtain ⟨y, hy, x⟩ := i2 e
        have hne : rs ≠ [] := fun z => by rw [z] at hy; cases hy
        refine ⟨y, by rw [List.getLast?_cons]; rw [hy]; rfl, ?_⟩
        have hl : 1 ≤ rs.length := List.length_pos_iff.mpr hne
        rw [show l + (r :: rs).length - 1 = l + 1 + rs.length - 1 by rw [List.length_cons]; omega]
        exact k _ _ x
def spScan (C CT : Addr) : Sp := fun vs H Q E => ∃ (cs : List Nat), vs = [.str (sl cs)] ∧ cs.length ≤ 100000 ∧
  (4000 < cs.length → ScE CT (.int 1) (.int 1) H E) ∧
  (cs.length ≤ 4000 → ∀ ts (l c : Nat), TxtR cs 1 1 ts (false, l, c) → ScE C (.int (l : Int)) (.int (c : Int)) H E) ∧
  (cs.length ≤ 4000 → ∀ ts (l c : Nat), TxtR cs 1 1 ts (true, l, c) → ∀ p xs H1, Same H H1 → H p = none → H1 p = some (.lst xs) → Toks H1 xs (ts ++ [(.str "end", .str "", l, c)]) → Q (.ref p) H1)
theorem scan_of {C CT : Addr} {vs : List V} {H : Hp} {Q : VK} {E : XK} (h : spScan C CT vs H Q E) : spScan0 C CT vs H Q E := by
  obtain ⟨cs, rfl, hn, ql, qe, qn⟩ := h
  refine ⟨cs, rfl, hn, ql, fun h4 ts l c g => ?_, fun h4 ts g p xs H1 s np hp tk => ?_⟩
  · obtain ⟨us, x⟩ := (rows_txt (rows_joined cs) g).1 l c rfl
    exact qe h4 us l c x
  · obtain ⟨y, hy, x⟩ := (rows_txt (rows_joined cs) g).2 rfl
    refine qn h4 ts _ _ x p xs H1 s np hp ?_
    have e : endOf cs = (.str "end", .str "", 1 + (rowsOf cs).length - 1, y.length + 1) := by
      unfold endOf
      rw [hy, show 1 + (rowsOf cs).length - 1 = (rowsOf cs).length by omega]
      rfl
    rw [← e]
    exact tk
section
variable {P : Program} {w : World} {K : PySem.W.Frag} {mg : Str → Option Value} {base : Heap} {a : Ad}
theorem ok_scan (T : Txt K mg a) (hP : PrgOk P a.file) : FnOk P w K mg base (L2.CX P w) 10 a.f_scan a.d_scan ["text"] (spScan a.C_ScanError a.C_TooLarge) := (ok_scan0 T hP).imp fun vs H Q E h => scan_of h
end

/-! ### the draws -/
structure StD (H : Hp) (st ca : Addr) (ns : List Int) : Prop where
  at' : ∃ i d n t b : Int, 0 ≤ i ∧ H st = some (.lst [.ref ca, .int i, .int d, .int n, .int t, .int b])
  ca' : H ca = some (.lst (ns.map V.int))
theorem StD.same {H H' : Hp} {st ca : Addr} {ns : List Int} (h : StD H st ca ns) (f : Same H H') : StD H' st ca ns := by
  obtain ⟨i, d, n, t, b, z, e⟩ := h.at'
  exact ⟨⟨i, d, n, t, b, z, f _ _ e⟩, f _ _ h.ca'⟩
theorem StD.new {H : Hp} {st ca p : Addr} {ns : List Int} {o : HO} (h : StD H st ca ns) (np : H p = none) : StD (upd H p o) st ca ns := h.same (sN (Same.refl H) np)
/-- all but the state stays -/
def Frs (st : Addr) (H H' : Hp) : Prop := ∀ b o, H b = some o → b ≠ st → H' b = some o
theorem Frs.refl {st : Addr} {H : Hp} : Frs st H H := fun _ _ e _ => e
theorem Frs.tr {st : Addr} {H H1 H2 : Hp} (x : Frs st H H1) (y : Frs st H1 H2) : Frs st H H2 := fun b o e n => y b o (x b o e n) n
theorem Frs.put {st : Addr} {H H1 : Hp} {o : HO} (x : Frs st H H1) : Frs st H (upd H1 st o) := fun b u e n => by rw [upd_ne n]; exact x b u e n
theorem Frs.of {st : Addr} {H H1 : Hp} (x : Same H H1) : Frs st H H1 := fun b u e _ => x b u e
theorem Frs.same {st : Addr} {H0 H H1 : Hp} (s : Same H0 H) (x : Frs st H H1) (n1 : H0 st = none) : Same H0 H1 := fun b o e => x b o (s b o e) (ne_of_none e n1)
def spMix : Sp := fun vs H Q _ => ∃ (n c : Int), vs = [.int n, .int c] ∧ ∀ v : Int, Q (.int v) H
def spState (K : PySem.W.Frag) : Sp := fun vs H Q _ => ∃ (sa : Addr) (ns : List Int) (b : Int), vs = [.ref sa, .int b] ∧ SqL K H sa (ns.map V.int) ∧ ns.length ≤ 63 ∧ ∀ (st ca : Addr) (H' : Hp), H st = none → StD H' st ca ns → Same H H' → Q (.ref st) H'
def spDraw : Sp := fun vs H Q _ => ∃ (st ca : Addr) (ns : List Int) (m : Int), vs = [.ref st, .int m] ∧ StD H st ca ns ∧ 0 < m ∧ m < 2 ^ 62 ∧ ∀ (v : Int) (H' : Hp), 0 ≤ v → v < m → StD H' st ca ns → Frs st H H' → Q (.int v) H'
def resvs : List Str := (["abs", "and", "array", "begin", "case", "constant", "declare", "else", "elsif", "end", "exception", "exit", "false", "for", "function", "get", "if", "in", "is", "loop", "mod", "not", "null", "of", "or", "others", "out", "procedure", "put", "raise", "range", "rem", "return", "reverse", "subtype", "then", "true", "type", "when", "while", "xor"] : List String).map Str.ofString
theorem res_eq : vRES = resvs.map V.str := rfl
def spRes : Sp := fun vs H Q _ => vs = [] ∧ ∀ p, H p = none → Q (.ref p) (upd H p (.lst vRES))
def spChar : Sp := fun vs H Q _ => ∃ (st ca : Addr) (ns : List Int), vs = [.ref st] ∧ StD H st ca ns ∧ ∀ (c : Nat) (H' : Hp), c ≠ 10 → StD H' st ca ns → Frs st H H' → Q (.str (sl [c])) H'
section
variable {P : Program} {w : World} {K : PySem.W.Frag} {mg : Str → Option Value} {base : Heap} {a : Ad}
theorem ok_law_mixed (T : Txt K mg a) : FnOk P w K mg base CX0 1 a.f_law_mixed a.d_law_mixed ["number", "count"] spMix := by
  refine T.F__law_mixed.ok sc_law_mixed (fun vs H Q E h => ?_) (fun cdv A outer s H vs Q E hr h => ?_)
  · obtain ⟨_, _, rfl, _⟩ := h; rfl
  · obtain ⟨n, c, rfl, q⟩ := h
    refine ⟨_, (pss_cons (ps_set (i := 2) sc_law_mixed.nd rfl (Or.inl rfl) (pe_op op_mod (pe_callTy call_int1 (by rfl) T.b_int (by decide +kernel) (pa_cons (pe_op op_add (pe_op op_add (pe_op op_mul (pv 0) pe_int) (pe_op op_mul (pv 1) pe_int)) pe_int) pa_nil)) pe_int))
      (pss_cons (ps_set (i := 3) sc_law_mixed.nd rfl (Or.inl rfl) (pe_op op_mod (pe_callTy call_int1 (by rfl) T.b_int (by decide +kernel) (pa_cons (pe_op op_add (pe_op op_add (pe_op op_mul (pv 2) (pv 2)) (pv 0)) (pe_op op_mul (pv 1) pe_int)) pa_nil)) pe_int))
      (pss_one (ps_ret (pe_op op_add (pv 3) (pe_op op_fdivW (pv 2) pe_int)))))), ?_⟩
    have hdv : ∀ i, CDivW i 64 := fun i => wide_div (b := 62) (by decide) (by decide) (by decide) (by decide)
    refine ⟨_, rfl, _, _, rfl, rfl, .inr (by decide), _, rfl, _, _, rfl, rfl, .inr (by decide), _, _, rfl, rfl, _, _, rfl, rfl, .inl ⟨_, rfl, _, _, rfl, rfl, (by show (0 : Int) < 2147483647; decide), ?_⟩⟩
    have h0 := Int.emod_nonneg (n * 48271 + c * 69621 + 7) (b := 2147483647) (by decide)
    have h1 := Int.emod_lt_of_pos (n * 48271 + c * 69621 + 7) (b := 2147483647) (by decide)
    refine ⟨_, rfl, _, rfl, _, _, rfl, rfl, .inr ⟨by omega, by omega⟩, _, rfl, _, _, rfl, rfl, _, rfl, _, _, rfl, rfl, .inr (by decide), _, _, rfl, rfl, .inl ⟨_, rfl, _, _, rfl, rfl, (by show (0 : Int) < 2147483399; decide), ?_⟩⟩
    exact ⟨_, rfl, _, rfl, _, _, rfl, rfl, hdv _, _, _, rfl, rfl, q _⟩
theorem ok_law_state (T : Txt K mg a) : FnOk P w K mg base CX0 1 a.f_law_state a.d_law_state ["script", "budget"] (spState K) := by
  refine T.F__law_state.ok sc_law_state (fun vs H Q E h => ?_) (fun cdv A outer s H vs Q E hr h => ?_)
  · obtain ⟨_, _, _, rfl, _⟩ := h; rfl
  · obtain ⟨sa, ns, b, rfl, hs, hl, q⟩ := h
    refine ⟨_, (pss_one (ps_ret (pe_lst (pa_cons (pe_callTy call_list_of (by rfl) T.b_list (by decide +kernel) (pa_cons (pv 0) pa_nil)) (pa_cons pe_int (pa_cons pe_int (pa_cons pe_int (pa_cons (pe_op op_add (pe_op op_mod (pe_callTy call_int1 (by rfl) T.b_int (by decide +kernel) (pa_cons (pe_callB (cr_sum rfl) (by rfl) T.b_sum (by decide +kernel) (pa_cons (pv 0) pa_nil)) pa_nil)) (pe_op op_pow pe_int pe_int)) (pe_callB call_len_seq (by rfl) T.b_len (by decide +kernel) (pa_cons (pv 0) pa_nil))) (pa_cons (pv 1) pa_nil))))))))), ?_⟩
    refine ⟨_, rfl, sa, _, rfl, .inl hs, fun ca nca => ?_⟩
    have s1 := sN (Same.refl H) nca (o := .lst (ns.map V.int))
    refine ⟨_, rfl, sa, ns, rfl, Same.seq s1 hs, .inl ⟨_, rfl, _, _, rfl, rfl, ⟨by decide, by decide, by decide⟩, _, _, rfl, rfl, (by show (0 : Int) < 10 ^ 15; decide), _, rfl, _, _, rfl, .inl (Same.seq s1 hs), _, _, rfl, rfl, _, rfl, (by show 6 ≤ sizeLine; decide), fun st nst => ?_⟩⟩
    have ncs : ca ≠ st := ne_of_none upd_same nst
    have ns0 : H st = none := by rw [upd_ne ncs.symm] at nst; exact nst
    exact q st ca _ ns0 ⟨⟨_, _, _, _, _, Int.le_refl 0, upd_same⟩, by rw [upd_ne ncs]; exact upd_same⟩ (sN s1 nst)
theorem ok_law_reserved (T : Txt K mg a) : FnOk P w K mg base CX0 1 a.f_law_reserved a.d_law_reserved [] spRes := by
  refine T.F__law_reserved.ok sc_law_reserved (fun vs H Q E h => ?_) (fun cdv A outer s H vs Q E hr h => ?_)
  · obtain ⟨rfl, _⟩ := h; rfl
  · obtain ⟨rfl, q⟩ := h
    refine ⟨_, (pss_cons (ps_set (i := 0) sc_law_reserved.nd rfl (Or.inl rfl) pe_str)
      (pss_cons (ps_set (i := 0) sc_law_reserved.nd rfl (Or.inl rfl) (pe_op op_add_str (pv 0) pe_str))
      (pss_cons (ps_set (i := 0) sc_law_reserved.nd rfl (Or.inl rfl) (pe_op op_add_str (pv 0) pe_str))
      (pss_one (ps_ret (pe_split (pv 0) pe_str)))))), ?_⟩
    refine ⟨_, rfl, _, _, rfl, rfl, (by decide +kernel), _, rfl, _, _, rfl, rfl, (by decide +kernel), ?_⟩
    refine ⟨_, rfl, ⟨_, rfl⟩, _, _, rfl, rfl, (by decide +kernel), (by decide +kernel), fun p np => ?_⟩
    have e := q p np
    rw [res_eq] at e
    refine Eq.mp (congrArg (fun l => Q (.ref p) (upd H p (.lst (List.map V.str l)))) ?_) e
    decide +kernel
theorem ok_law_draw (T : Txt K mg a) : FnOk P w K mg base CX0 3 a.f_law_draw a.d_law_draw ["state", "many"] spDraw := by
  have G_law_mixed : FnOk P w K mg base CX0 1 _ _ _ _ := ok_law_mixed T
  refine T.F__law_draw.ok sc_law_draw (fun vs H Q E h => ?_) (fun cdv A outer s H vs Q E hr h => ?_)
  · obtain ⟨_, _, _, _, rfl, _⟩ := h; rfl
  · obtain ⟨st, ca, ns, m, rfl, S, hm, hm2, q⟩ := h
    have hdv : ∀ i, CDivW i m := fun i => wide_div (b := 62) hm (by omega) (by decide) (by decide)
    obtain ⟨i, d, n, t, b, i0, h1⟩ := S.at'
    have h2 := S.ca'
    have nsc : st ≠ ca := ne_of h1 h2 fun e => by
      injection e with e
      cases ns with
      | nil => exact nomatch e
      | cons x r => injection e with e _; exact nomatch e
    refine ⟨_, (pss_cons (ps_set (i := 2) sc_law_draw.nd rfl (Or.inl rfl) (pe_ix ix_list (pv 0) pe_int (fun _ _ => rfl)))
      (pss_cons (ps_asg (pe_op op_add (pe_ix ix_list (pv 0) pe_int (fun _ _ => rfl)) pe_int) (pg_sub (pv 0) pe_int set_list))
      (C8.pss_cut (ps_if (PW.pt (pw_and (pt_cmpR op_eq (pe_ix ix_list (pv 0) pe_int (fun _ _ => rfl)) pe_int (nomark _)) (pw_and1 (pt_cmpR op_lt (pe_ix ix_list (pv 0) pe_int (fun _ _ => rfl)) (pe_callB call_len_seq (by rfl) T.b_len (by decide +kernel) (pa_cons (pv 2) pa_nil)) (nomark _))))) (pss_cons (ps_asg (pe_op op_add (pe_ix ix_list (pv 0) pe_int (fun _ _ => rfl)) pe_int) (pg_sub (pv 0) pe_int set_list))
      (pss_cons (ps_set (i := 3) sc_law_draw.nd rfl (Or.inl rfl) (pe_callB call_abs (by rfl) T.b_abs (by decide +kernel) (pa_cons (pe_ix ix_list (pv 2) (pe_op op_sub (pe_ix ix_list (pv 0) pe_int (fun _ _ => rfl)) pe_int) (fun _ _ => rfl)) pa_nil)))
      (pss_cons (ps_if (pt_cmpR op_lt (pv 3) (pe_op op_pow pe_int pe_int) (nomark _)) (pss_one (ps_ret (pe_op op_mod (pe_callTy call_int1 (by rfl) T.b_int (by decide +kernel) (pa_cons (pe_call G_law_mixed (hr.mono (by decide)) rfl T.g__law_mixed T.k__law_mixed T.bd__law_mixed .nil pass0 (pa_cons (pv 3) (pa_cons (pe_ix ix_list (pv 0) pe_int (fun _ _ => rfl)) pa_nil))) pa_nil)) (pv 1)))) pss_nil)
      (pss_one (ps_asg (pv 3) (pg_sub (pv 0) pe_int set_list)))))) pss_nil)
      (pss_cons (ps_if (pt_cmpR op_eq (pe_ix ix_list (pv 0) pe_int (fun _ _ => rfl)) pe_int (nomark _)) (pss_one (ps_ret (pe_op op_mod (pe_callTy call_int1 (by rfl) T.b_int (by decide +kernel) (pa_cons (pe_call G_law_mixed (hr.mono (by decide)) rfl T.g__law_mixed T.k__law_mixed T.bd__law_mixed .nil pass0 (pa_cons (pe_ix ix_list (pv 0) pe_int (fun _ _ => rfl)) (pa_cons (pe_ix ix_list (pv 0) pe_int (fun _ _ => rfl)) pa_nil))) pa_nil)) (pv 1)))) pss_nil)
      (pss_cons (ps_set (i := 4) sc_law_draw.nd rfl (Or.inl rfl) (pe_op op_mod (pe_callTy call_int1 (by rfl) T.b_int (by decide +kernel) (pa_cons (pe_ix ix_list (pv 0) pe_int (fun _ _ => rfl)) pa_nil)) (pv 1)))
      (pss_cons (ps_asg (pe_op op_fdivW (pe_callTy call_int1 (by rfl) T.b_int (by decide +kernel) (pa_cons (pe_ix ix_list (pv 0) pe_int (fun _ _ => rfl)) pa_nil)) (pv 1)) (pg_sub (pv 0) pe_int set_list))
      (pss_one (ps_ret (pv 4))))))))), ?_⟩
    refine ⟨_, rfl, _, _, _, _, rfl, rfl, SqL.of h1, rfl, ?_⟩
    refine ⟨_, rfl, _, _, _, _, rfl, rfl, SqL.of h1, rfl, _, _, rfl, rfl, _, rfl, _, _, _, _, rfl, rfl, h1, rfl, ?_⟩
    have k2 : ∀ {H2 : Hp} {o : HO}, H2 ca = some (.lst (ns.map V.int)) → upd H2 st o ca = some (.lst (ns.map V.int)) := fun e => by rw [upd_ne nsc.symm]; exact e
    refine ⟨fun σ H2 => ∃ (i d n t b : Int) (o : Option V), 0 ≤ i ∧ σ = [some (.ref st), some (.int m), some (.ref ca), o, none] ∧ H2 st = some (.lst [.ref ca, .int i, .int d, .int n, .int t, .int b]) ∧ H2 ca = some (.lst (ns.map V.int)) ∧ Frs st H H2, ?_, ?_⟩
    · have e1 : upd H st (.lst [.ref ca, .int i, .int d, .int (n + 1), .int t, .int b]) st = some (.lst [.ref ca, .int i, .int d, .int (n + 1), .int t, .int b]) := upd_same
      have e2 := k2 (o := .lst [.ref ca, .int i, .int d, .int (n + 1), .int t, .int b]) h2
      refine ⟨_, rfl, _, _, _, _, rfl, rfl, SqL.of e1, rfl, rfl, _, rfl, ite3 (fun c1 => ?_) (fun c1 => ?_)⟩
      · refine ⟨_, rfl, _, _, _, _, rfl, rfl, SqL.of e1, rfl, _, rfl, _, _, rfl, .inl (SqL.of e2), _, _, rfl, rfl, _, rfl, ite3 (fun c2 => ?_) (fun c2 => ?_)⟩
        · have hlt : i.toNat < ns.length := by
            have := of_decide_eq_true c2
            simp at this
            omega
          have hat : atI (ns.map V.int) (i + 1 - 1) = some (.int ns[i.toNat]) := by
            have hh := atI_nat (j := i.toNat) (xs := ns.map V.int) (v := V.int ns[i.toNat]) (by simp [hlt])
            rwa [show ((i.toNat : Nat) : Int) = i + 1 - 1 by omega] at hh
          refine ⟨_, rfl, _, _, _, _, rfl, rfl, SqL.of e1, rfl, _, _, rfl, rfl, _, rfl, _, _, _, _, rfl, rfl, e1, rfl, ?_⟩
          have e3 := k2 (o := .lst [.ref ca, .int (i + 1), .int d, .int (n + 1), .int t, .int b]) e2
          refine ⟨_, rfl, _, rfl, _, _, _, _, rfl, rfl, SqL.of upd_same, rfl, _, _, rfl, rfl, _, _, _, _, rfl, rfl, SqL.of e3, hat, _, rfl, ?_⟩
          refine ⟨_, rfl, _, _, rfl, rfl, ⟨by decide, by decide, by decide⟩, _, _, rfl, rfl, _, rfl, ite3 (fun c3 => ?_) (fun c3 => ?_)⟩
          · refine ⟨_, rfl, _, rfl, _, _, _, _, rfl, rfl, SqL.of upd_same, rfl, _, _, rfl, fun v => .inl ⟨_, rfl, _, rfl, _, _, rfl, rfl, hm, ?_⟩⟩
            exact q _ _ (Int.emod_nonneg _ (by omega)) (Int.emod_lt_of_pos _ hm) ⟨⟨_, _, _, _, _, by omega, upd_same⟩, e3⟩ Frs.refl.put.put
          · refine ⟨_, rfl, _, rfl, _, _, _, _, rfl, rfl, upd_same, rfl, ?_⟩
            exact ⟨i + 1, _, _, _, _, _, by omega, rfl, upd_same, k2 e3, Frs.refl.put.put.put⟩
        · exact ⟨_, _, _, _, _, _, i0, rfl, upd_same, e2, Frs.refl.put⟩
      · exact iteF ⟨_, _, _, _, _, _, i0, rfl, upd_same, e2, Frs.refl.put⟩
    · clear h1 h2 i0
      rintro σ H2 ⟨i, d, n, t, b, o, i0, rfl, h1, h2, f⟩
      refine ⟨_, rfl, _, _, _, _, rfl, rfl, SqL.of h1, rfl, rfl, _, rfl, ite3 (fun c1 => ?_) (fun c1 => ?_)⟩
      · refine ⟨_, rfl, _, _, _, _, rfl, rfl, SqL.of h1, rfl, _, rfl, _, _, _, _, rfl, rfl, SqL.of h1, rfl, _, _, rfl, fun v => .inl ⟨_, rfl, _, rfl, _, _, rfl, rfl, hm, ?_⟩⟩
        exact q _ _ (Int.emod_nonneg _ (by omega)) (Int.emod_lt_of_pos _ hm) ⟨⟨_, _, _, _, _, i0, h1⟩, h2⟩ f
      · refine ⟨_, rfl, _, _, _, _, rfl, rfl, SqL.of h1, rfl, .inl ⟨_, rfl, _, rfl, _, _, rfl, rfl, hm, ?_⟩⟩
        refine ⟨_, rfl, _, _, _, _, rfl, rfl, SqL.of h1, rfl, .inl ⟨_, rfl, _, rfl, _, _, rfl, rfl, hdv _, _, rfl, _, _, _, _, rfl, rfl, h1, rfl, ?_⟩⟩
        exact ⟨_, rfl, q _ _ (Int.emod_nonneg _ (by omega)) (Int.emod_lt_of_pos _ hm) ⟨⟨_, _, _, _, _, i0, upd_same⟩, k2 h2⟩ f.put⟩
theorem ok_law_char (T : Txt K mg a) : FnOk P w K mg base CX0 5 a.f_law_char a.d_law_char ["state"] spChar := by
  refine T.F__law_char.ok sc_law_char (fun vs H Q E h => ?_) (fun cdv A outer s H vs Q E hr h => ?_)
  · obtain ⟨_, _, _, rfl, _⟩ := h; rfl
  · obtain ⟨st, ca, ns, rfl, hS, q⟩ := h
    have G_law_draw : FnOk P w K mg base CX0 3 _ _ _ _ := ok_law_draw T
    refine ⟨_, (pss_cons (ps_set (i := 1) sc_law_char.nd rfl (Or.inl rfl) pe_str)
      (pss_cons (ps_set (i := 1) sc_law_char.nd rfl (Or.inl rfl) (pe_op op_add_str (pv 1) pe_str))
      (pss_one (ps_ret (pe_ix ix_str (pv 1) (pe_call G_law_draw (hr.mono (by decide)) rfl T.g__law_draw T.k__law_draw T.bd__law_draw .nil pass0 (pa_cons (pv 0) (pa_cons pe_int pa_nil))) (fun _ _ => rfl)))))), ?_⟩
    refine ⟨_, rfl, _, _, rfl, rfl, (by decide +kernel), ?_⟩
    refine ⟨_, rfl, _, rfl, st, ca, ns, 94, rfl, hS, by decide, by decide, fun v H' v0 v1 S' f => ?_⟩
    have hl : (((" !\"#$&'()*+,-./0123456789:;<=>?@ABCDEFGHIJKLMNOPQRSTUVWXYZ[\\]^_`" : Str) ++ ("abcdefghijklmnopqrstuvwxyz{|}~" : Str)).cps.toList).length = 94 := by decide +kernel
    have hlt : v.toNat < (((" !\"#$&'()*+,-./0123456789:;<=>?@ABCDEFGHIJKLMNOPQRSTUVWXYZ[\\]^_`" : Str) ++ ("abcdefghijklmnopqrstuvwxyz{|}~" : Str)).cps.toList).length := by omega
    have hat := atI_nat (List.getElem?_eq_getElem hlt)
    rw [show ((v.toNat : Nat) : Int) = v by omega] at hat
    have hall : ∀ c ∈ ((" !\"#$&'()*+,-./0123456789:;<=>?@ABCDEFGHIJKLMNOPQRSTUVWXYZ[\\]^_`" : Str) ++ ("abcdefghijklmnopqrstuvwxyz{|}~" : Str)).cps.toList, c ≠ 10 := by decide +kernel
    exact ⟨_, _, _, rfl, rfl, (by decide +kernel), hat, q _ _ (hall _ (List.getElem_mem hlt)) S' f⟩
end

/-! ### tokens that are written -/
theorem run_app {z : Str} : ∀ {t q : List Nat}, (∀ c ∈ t, isIn z c = true) → (∀ c q', q = c :: q' → isIn z c = false) → runOf z (t ++ q) = t
  | [], q, _, hq => by
    cases q with
    | nil => rfl
    | cons c q' =>
      show List.takeWhile (isIn z) (c :: q') = []
      rw [List.takeWhile_cons_of_neg (by rw [hq c q' rfl]; decide)]
  | x :: t, q, ht, hq => by
    show List.takeWhile (isIn z) (x :: (t ++ q)) = x :: t
    rw [List.takeWhile_cons_of_pos (ht x List.mem_cons_self)]
    exact congrArg (x :: ·) (run_app (fun c hc => ht c (List.mem_cons_of_mem _ hc)) hq)
def lastN (t : List Nat) : Prop := ∃ c, t.getLast? = some c ∧ isIn zN c = true
/-- what may follow a token -/
def Sep (t q : List Nat) : Prop := ∀ c q', q = c :: q' → ¬ (lastN t ∧ isIn zN c = true) ∧ t ++ [c] ∉ longs ∧ t ++ [c] ≠ [45, 45]
theorem Sep.nil (t : List Nat) : Sep t [] := fun c q' e => nomatch e
def Wd (t : List Nat) : Prop := ∃ x r, t = x :: r ∧ isIn zL x = true ∧ ∀ c ∈ t, isIn zN c = true
inductive GoodTok : V → V → List Nat → Prop where
  | word {t : List Nat} (w : Wd t) (h : inV (.str (sl t)) vRES = true) : GoodTok (.str "word") (.str (sl t)) t
  | name {t : List Nat} (w : Wd t) (h : inV (.str (sl t)) vRES = false) (l : t.length ≤ 30) (u : inV (.str "") (partsOf t) = false) : GoodTok (.str "name") (.str (sl t)) t
  | num {t : List Nat} (d : ∀ c ∈ t, isIn zD c = true) (ne : t ≠ []) (l : t.length ≤ 10) (n : ((NumText.digitsVal t : Nat) : Int) ≤ 2147483647) : GoodTok (.str "number") (.int ((NumText.digitsVal t : Nat) : Int)) t
  | long {t : List Nat} (h : t ∈ longs) : GoodTok (.str "sign") (.str (sl t)) t
  | short {x : Nat} (h : isIn zS x = true) : GoodTok (.str "sign") (.str (sl [x])) [x]
theorem zD_N {c : Nat} (h : isIn zD c = true) : isIn zN c = true := by
  have e : ∀ y ∈ zD.cps.toList, y ∈ zN.cps.toList := by decide +kernel
  unfold isIn at h ⊢
  exact decide_eq_true (e c (of_decide_eq_true h))
theorem zD_L {x : Nat} (h : isIn zD x = true) : ¬ isIn zL x = true := by
  have e : ∀ y ∈ zD.cps.toList, y ∉ zL.cps.toList := by decide +kernel
  unfold isIn at h ⊢
  intro g
  exact e x (of_decide_eq_true h) (of_decide_eq_true g)
theorem zL_facts {x : Nat} (h : isIn zL x = true) : x ≠ 32 ∧ x ≠ 10 ∧ x ≠ 45 := by
  have e : ∀ y ∈ zL.cps.toList, y ≠ 32 ∧ y ≠ 10 ∧ y ≠ 45 := by decide +kernel
  unfold isIn at h
  exact e x (of_decide_eq_true h)
theorem zN_facts {x : Nat} (h : isIn zN x = true) : x ≠ 32 ∧ x ≠ 10 ∧ x ≠ 45 := by
  have e : ∀ y ∈ zN.cps.toList, y ≠ 32 ∧ y ≠ 10 ∧ y ≠ 45 := by decide +kernel
  unfold isIn at h
  exact e x (of_decide_eq_true h)
theorem zS_facts {x : Nat} (h : isIn zS x = true) : x ≠ 32 ∧ x ≠ 10 ∧ ¬ isIn zL x = true ∧ ¬ isIn zD x = true := by
  have e : ∀ y ∈ zS.cps.toList, y ≠ 32 ∧ y ≠ 10 ∧ y ∉ zL.cps.toList ∧ y ∉ zD.cps.toList := by decide +kernel
  unfold isIn at h ⊢
  obtain ⟨h1, h2, h3, h4⟩ := e x (of_decide_eq_true h)
  exact ⟨h1, h2, by simpa using h3, by simpa using h4⟩
theorem take2_ne {x : Nat} {r : List Nat} (h : x ≠ 45) : (x :: r).take 2 ≠ [45, 45] := by
  intro e
  rw [List.take_succ_cons] at e
  injection e with e _
  exact h e
theorem last_all {z : Str} {t : List Nat} (ne : t ≠ []) (h : ∀ c ∈ t, isIn z c = true) : ∃ c, t.getLast? = some c ∧ isIn z c = true :=
  ⟨t.getLast ne, List.getLast?_eq_some_getLast ne, h _ (List.getLast_mem ne)⟩
theorem good_tok {k v : V} {t q : List Nat} (g : GoodTok k v t) (s : Sep t q) : ∃ x r, t = x :: r ∧ x ≠ 32 ∧ x ≠ 10 ∧ (t ++ q).take 2 ≠ [45, 45] ∧ tokF (t ++ q) = some (k, v, t.length) := by
  have wd : ∀ {t : List Nat}, Wd t → Sep t q → ∃ x r, t = x :: r ∧ x ≠ 32 ∧ x ≠ 10 ∧ (t ++ q).take 2 ≠ [45, 45] ∧ tokF (t ++ q) = wordF (t ++ q) ∧ runOf zN (t ++ q) = t := by
    rintro t ⟨x, r, rfl, hx, hall⟩ s
    obtain ⟨h1, h2, h3⟩ := zL_facts hx
    refine ⟨x, r, rfl, h1, h2, take2_ne h3, ?_, run_app hall fun c q' e => ?_⟩
    · show tokF (x :: (r ++ q)) = _
      rw [tokF_cons, if_pos hx]
      rfl
    · have := (s c q' e).1
      have hl := last_all (z := zN) (t := x :: r) (by simp) hall
      cases hc : isIn zN c with
      | false => rfl
      | true => exact absurd ⟨hl, hc⟩ this
  cases g with
  | word w h =>
    obtain ⟨x, r, e, h1, h2, h3, h4, h5⟩ := wd w s
    refine ⟨x, r, e, h1, h2, h3, ?_⟩
    rw [h4]; unfold wordF; rw [h5, if_pos h]
  | name w h l u =>
    obtain ⟨x, r, e, h1, h2, h3, h4, h5⟩ := wd w s
    refine ⟨x, r, e, h1, h2, h3, ?_⟩
    rw [h4]; unfold wordF; rw [h5, if_neg (ne_true_of_eq_false h), if_neg (fun z => z.elim (by omega) (ne_true_of_eq_false u))]
  | num d ne l n =>
    cases t with
    | nil => exact absurd rfl ne
    | cons x r =>
      have hx := d x List.mem_cons_self
      obtain ⟨h1, h2, h3⟩ := zN_facts (zD_N hx)
      have hrun : runOf zD ((x :: r) ++ q) = x :: r := run_app d fun c q' e => by
        have := (s c q' e).1
        have hl := last_all (z := zN) (t := x :: r) (by simp) (fun c hc => zD_N (d c hc))
        cases hc : isIn zD c with
        | false => rfl
        | true => exact absurd ⟨hl, zD_N hc⟩ this
      have hno : ¬ ∃ c, ((x :: r) ++ q)[(x :: r).length]? = some c ∧ isIn zN c = true := by
        rintro ⟨c, hc, hN⟩
        rw [List.getElem?_append_right (Nat.le_refl _), Nat.sub_self] at hc
        cases q with
        | nil => cases hc
        | cons y q' =>
          obtain rfl : y = c := by simpa using hc
          exact (s y q' rfl).1 ⟨last_all (z := zN) (t := x :: r) (by simp) (fun c hc => zD_N (d c hc)), hN⟩
      refine ⟨x, r, rfl, h1, h2, take2_ne h3, ?_⟩
      show tokF (x :: (r ++ q)) = _
      rw [tokF_cons, if_neg (zD_L hx), if_pos hx]
      show numF ((x :: r) ++ q) = _
      unfold numF numV
      rw [hrun, if_neg hno, if_neg (fun z => z.elim (by omega) (by omega))]
  | long h =>
    have e : ∀ t ∈ longs, ∃ x y, t = [x, y] ∧ x ≠ 32 ∧ x ≠ 10 ∧ x ≠ 45 ∧ isIn zL x = false ∧ isIn zD x = false := by
      intro t ht
      have hd : ∀ t ∈ longs, t.length = 2 ∧ ∀ x, t[0]? = some x → x ≠ 32 ∧ x ≠ 10 ∧ x ≠ 45 ∧ isIn zL x = false ∧ isIn zD x = false := by
        have : longs.all (fun t => decide (t.length = 2) && (match t with | x :: _ => decide (x ≠ 32) && decide (x ≠ 10) && decide (x ≠ 45) && !isIn zL x && !isIn zD x | [] => true)) = true := by decide +kernel
        intro t ht
        have h := List.all_eq_true.mp this t ht
        simp only [Bool.and_eq_true, decide_eq_true_eq] at h
        refine ⟨h.1, fun x hx => ?_⟩
        cases t with
        | nil => cases hx
        | cons y r =>
          obtain rfl : y = x := by simpa using hx
          have h2 := h.2
          simp only [Bool.and_eq_true, decide_eq_true_eq, Bool.not_eq_true'] at h2
          exact ⟨h2.1.1.1.1, h2.1.1.1.2, h2.1.1.2, h2.1.2, h2.2⟩
      obtain ⟨hl, hf⟩ := hd t ht
      match t, hl with
      | [x, y], _ =>
        obtain ⟨a1, a2, a3, a4, a5⟩ := hf x rfl
        exact ⟨x, y, rfl, a1, a2, a3, a4, a5⟩
    obtain ⟨x, y, rfl, h1, h2, h3, h4, h5⟩ := e t h
    refine ⟨x, [y], rfl, h1, h2, take2_ne h3, ?_⟩
    show tokF (x :: (y :: q)) = _
    have hin : inV (.str (sl ((x :: y :: q).take 2))) vLONG = true := by rw [in_long]; exact decide_eq_true h
    rw [tokF_cons, if_neg (ne_true_of_eq_false h4), if_neg (ne_true_of_eq_false h5), if_pos hin]
    rfl
  | @short x h =>
    obtain ⟨h1, h2, h3, h4⟩ := zS_facts h
    have hn : ([x] ++ q).take 2 ∉ longs ∧ ([x] ++ q).take 2 ≠ [45, 45] := by
      cases q with
      | nil => exact ⟨by simp [longs], by simp⟩
      | cons c q' => exact (s c q' rfl).2
    refine ⟨x, [], rfl, h1, h2, hn.2, ?_⟩
    have hin : inV (.str (sl ((x :: q).take 2))) vLONG = false := by rw [in_long]; exact decide_eq_false hn.1
    show tokF (x :: q) = _
    rw [tokF_cons, if_neg h3, if_neg h4, if_neg (ne_true_of_eq_false hin), if_pos h]
    rfl
/-! ### gaps -/
def adv : List Nat → Nat × Nat → Nat × Nat
  | [], p => p
  | c :: r, p => adv r (if c = 10 then (p.1 + 1, 1) else (p.1, p.2 + 1))
theorem adv_app : ∀ (a b : List Nat) (p : Nat × Nat), adv (a ++ b) p = adv b (adv a p)
  | [], _, _ => rfl
  | c :: a, b, p => adv_app a b _
theorem adv_plain : ∀ (a : List Nat) (p : Nat × Nat), 10 ∉ a → adv a p = (p.1, p.2 + a.length)
  | [], p, _ => rfl
  | c :: a, p, h => by
    have hc : ¬ c = 10 := fun e => h (by rw [e]; exact List.mem_cons_self)
    show adv a (if c = 10 then _ else _) = _
    rw [if_neg hc, adv_plain a _ (fun z => h (List.mem_cons_of_mem _ z)), List.length_cons]
    show (p.1, p.2 + 1 + a.length) = _
    rw [show p.2 + 1 + a.length = p.2 + (a.length + 1) by omega]
/-- a text that stands for nothing: the rest is read on behind it -/
def GapOK (g : List Nat) : Prop := ∀ (p : Nat × Nat) (q : List Nat) (ts : List Tk4) (e : Bool × Nat × Nat), TxtR q (adv g p).1 (adv g p).2 ts e → TxtR (g ++ q) p.1 p.2 ts e
theorem GapOK.nil : GapOK [] := fun _ _ _ _ h => h
theorem GapOK.app {g h : List Nat} (x : GapOK g) (y : GapOK h) : GapOK (g ++ h) := fun p q ts e t => by
  rw [adv_app] at t
  rw [List.append_assoc]
  exact x p _ ts e (y _ q ts e t)
theorem GapOK.sp : GapOK [32] := fun p q ts e t => .spc t
theorem GapOK.nl : GapOK [10] := fun p q ts e t => .nl t
theorem GapOK.sps : ∀ n, GapOK (List.replicate n 32)
  | 0 => .nil
  | n + 1 => by
    rw [show List.replicate (n + 1) 32 = [32] ++ List.replicate n 32 from rfl]
    exact GapOK.sp.app (GapOK.sps n)
theorem GapOK.rem {b : List Nat} (h : 10 ∉ b) : GapOK ([45, 45] ++ b ++ [10]) := by
  intro p q ts e t
  have h2 : 10 ∉ [45, 45] ++ b := fun z => by
    rcases List.mem_append.mp z with z | z
    · simp at z
    · exact h z
  rw [adv_app, adv_plain _ _ h2] at t
  rw [List.append_assoc]
  obtain ⟨e1, e2⟩ := dw_cut (q := [10] ++ q) (.inr ⟨q, rfl⟩) ([45, 45] ++ b) h2
  refine .rem (by simp) ?_
  rw [e1, e2]
  exact .nl t
/-- a gap behind a token -/
structure GapB (b g : List Nat) : Prop where
  ok : GapOK g
  st : g = [] ∨ ∃ c g', g = c :: g' ∧ (c = 32 ∨ c = 10 ∨ (c = 45 ∧ b.getLast? ≠ some 45))
theorem gap_sep {b g q : List Nat} (h : GapB b g) (hq : g = [] → Sep b q) : Sep b (g ++ q) := by
  rcases h.st with e | ⟨c, g', e, hc⟩
  · rw [e]; exact hq e
  · rw [e]
    intro c' q' e'
    obtain ⟨rfl, _⟩ : c = c' ∧ g' ++ q = q' := by simpa using e'
    have hN : isIn zN c = false := by
      rcases hc with rfl | rfl | ⟨rfl, _⟩ <;> decide +kernel
    have hlast : ∀ t ∈ longs, t.getLast? ≠ some 32 ∧ t.getLast? ≠ some 10 ∧ t.getLast? ≠ some 45 := by decide
    have hl : (b ++ [c]).getLast? = some c := by simp
    refine ⟨fun z => by rw [hN] at z; exact absurd z.2 (by decide), fun z => ?_, fun z => ?_⟩
    · obtain ⟨h1, h2, h3⟩ := hlast _ z
      rw [hl] at h1 h2 h3
      rcases hc with rfl | rfl | ⟨rfl, _⟩
      · exact h1 rfl
      · exact h2 rfl
      · exact h3 rfl
    · rcases hc with rfl | rfl | ⟨rfl, hb⟩
      · rw [z] at hl; cases hl
      · rw [z] at hl; cases hl
      · have : b = [45] := by
          have h1 := congrArg List.dropLast z
          simpa using h1
        rw [this] at hb
        exact hb rfl
theorem txt_tok {k v : V} {t q : List Nat} {l c : Nat} {ts : List Tk4} {e : Bool × Nat × Nat} (g : GoodTok k v t) (s : Sep t q) (h : TxtR q l (c + t.length) ts e) : TxtR (t ++ q) l c ((k, v, l, c) :: ts) e := by
  obtain ⟨x, r, rfl, h1, h2, h3, h4⟩ := good_tok g s
  have hd : ((x :: r) ++ q).drop (x :: r).length = q := by rw [List.drop_left]
  refine TxtR.tok h1 h2 h3 h4 ?_
  rw [← hd] at h
  exact h

/-! ### names, numbers -/
theorem last_at {α : Type} {ds : List α} {y : α} : atI (ds ++ [y]) (-1) = some y := by
  unfold atI
  have : ixN (ds ++ [y]).length (-1) = some ds.length := by
    unfold ixN
    simp
    omega
  rw [this]
  simp
theorem chr_eq (x n : Nat) (z : Str) (hz : z = sl [n]) : decide (V.str ⟨#[x]⟩ = V.str z) = decide (x = n) := by
  rw [hz]
  show decide (V.str (sl [x]) = V.str (sl [n])) = _
  by_cases h : x = n
  · rw [h, decide_eq_true rfl, decide_eq_true rfl]
  · rw [decide_eq_false h, decide_eq_false fun q => h ?_]
    have z1 : sl [x] = sl [n] := by injection q
    simpa using sl_inj z1
def stN : Bool → List Nat → Option Bool
  | b, [] => some b
  | b, c :: r => if c = 95 then (if b = true then stN false r else none) else stN true r
theorem stN_app : ∀ (a b : List Nat) (x : Bool), stN x (a ++ b) = (stN x a).bind fun y => stN y b
  | [], _, _ => rfl
  | c :: a, b, x => by
    show (if c = 95 then (if x = true then stN false (a ++ b) else none) else stN true (a ++ b)) = (if c = 95 then (if x = true then stN false a else none) else stN true a).bind fun y => stN y b
    by_cases h : c = 95
    · rw [if_pos h, if_pos h]
      by_cases hx : x = true
      · rw [if_pos hx, if_pos hx]; exact stN_app a b false
      · rw [if_neg hx, if_neg hx]; rfl
    · rw [if_neg h, if_neg h]; exact stN_app a b true
theorem spl_parts : ∀ (cs acc : List Nat), stN (!acc.isEmpty) cs = some true → [] ∉ TL.spl [95] 0 acc cs
  | [], acc, h => by
    rw [TL.spl_nil]
    intro m
    obtain rfl : [] = acc := by simpa using m
    simp [stN] at h
  | x :: cs, acc, h => by
    by_cases hx : x = 95
    · subst hx
      rw [TL.spl_hit (by simp [TL.pre])]
      have h' : (if (!acc.isEmpty) = true then stN false cs else none) = some true := h
      by_cases ha : (!acc.isEmpty) = true
      · rw [if_pos ha] at h'
        have ih := spl_parts cs [] h'
        intro m
        rcases List.mem_cons.mp m with m | m
        · rw [← m] at ha
          exact absurd ha (by decide)
        · exact ih m
      · rw [if_neg ha] at h'; cases h'
    · rw [TL.spl_miss (by simp [TL.pre, hx])]
      refine spl_parts cs (acc ++ [x]) ?_
      have h' : (if x = 95 then (if (!acc.isEmpty) = true then stN false cs else none) else stN true cs) = some true := h
      rw [if_neg hx] at h'
      rw [show (!(acc ++ [x]).isEmpty) = true by simp]
      exact h'
theorem parts_ok {cs : List Nat} (h : stN false cs = some true) : inV (.str "") (partsOf cs) = false := by
  have e0 : ("" : Str) = sl [] := by decide +kernel
  have e1 : usc = sl [95] := by decide +kernel
  unfold partsOf
  rw [e1, show Txt.split (sl cs) (sl [95]) = (TL.spl [95] 0 [] cs).map sl from SX.split_S (a := cs) (b := [95]) (by simp) (by decide), List.map_map]
  show inV (.str "") ((TL.spl [95] 0 [] cs).map fun r => V.str (sl r)) = false
  rw [e0, inV_sl]
  exact decide_eq_false (spl_parts cs [] h)
theorem inV_str (z : Str) : ∀ zs : List Str, inV (.str z) (zs.map V.str) = decide (z ∈ zs)
  | [] => by simp [inV]
  | a :: zs => by
    have ih := inV_str z zs
    unfold inV at ih ⊢
    rw [List.map_cons, List.any_cons, ih]
    have e : eqV (V.str a) (V.str z) = decide (a = z) := by
      show (a == z) = _
      rw [str_beq]
    rw [e]
    by_cases h : a = z
    · subst h; simp
    · have h' : ¬ z = a := fun q => h q.symm
      simp [h, h']
theorem in_res (t : List Nat) : inV (.str (sl t)) vRES = decide (sl t ∈ resvs) := by rw [res_eq, inV_str]
def Nm (t : List Nat) : Prop := Wd t ∧ inV (.str (sl t)) vRES = false ∧ t.length ≤ 30 ∧ inV (.str "") (partsOf t) = false
theorem chars37 : (("abcdefghijklmnopqrstuvwxyz0123456789_" : Str).cps.toList).length = 37 := by decide +kernel
theorem at_in {l : List Nat} {v : Int} (h0 : 0 ≤ v) (h1 : v < (l.length : Nat)) : ∃ x, atI l v = some x ∧ x ∈ l ∧ l[v.toNat]? = some x := by
  have hlt : v.toNat < l.length := by omega
  have hh := atI_nat (List.getElem?_eq_getElem hlt)
  rw [show ((v.toNat : Nat) : Int) = v by omega] at hh
  exact ⟨_, hh, List.getElem_mem hlt, List.getElem?_eq_getElem hlt⟩
theorem first26 {x : Nat} {v : Int} (h0 : 0 ≤ v) (h1 : v < 26) (h : ("abcdefghijklmnopqrstuvwxyz0123456789_" : Str).cps.toList[v.toNat]? = some x) : isIn zL x = true := by
  have e : ("abcdefghijklmnopqrstuvwxyz0123456789_" : Str).cps.toList.take 26 = zL.cps.toList := by decide +kernel
  have h2 : (("abcdefghijklmnopqrstuvwxyz0123456789_" : Str).cps.toList.take 26)[v.toNat]? = some x := by
    rw [List.getElem?_take, if_pos (by omega)]; exact h
  rw [e] at h2
  exact decide_eq_true (List.mem_of_getElem? h2)
theorem at_pos (n : Nat) (l : List V) : ∀ v : Int, 0 ≤ v → v < (l.length : Nat) → ∃ x, atI l v = some x ∧ x ∈ l := fun v h0 h1 => by
  have hlt : v.toNat < l.length := by omega
  have hh := atI_nat (List.getElem?_eq_getElem hlt)
  rw [show ((v.toNat : Nat) : Int) = v by omega] at hh
  exact ⟨_, hh, List.getElem_mem hlt⟩
def spName : Sp := fun vs H Q _ => ∃ (st ca : Addr) (ns : List Int), vs = [.ref st] ∧ StD H st ca ns ∧ ∀ (t : List Nat) (H' : Hp), Nm t → StD H' st ca ns → Frs st H H' → Q (.str (sl t)) H'
def spNum : Sp := fun vs H Q _ => ∃ (st ca : Addr) (ns : List Int), vs = [.ref st] ∧ StD H st ca ns ∧ ∀ (v : Int) (H' : Hp), 0 ≤ v → v ≤ 2147483647 → StD H' st ca ns → Frs st H H' → Q (.int v) H'
def Dg (t : List Nat) (v : Int) : Prop := (∀ c ∈ t, isIn zD c = true) ∧ t ≠ [] ∧ t.length ≤ 10 ∧ ((NumText.digitsVal t : Nat) : Int) = v
def spDig : Sp := fun vs H Q _ => ∃ (st ca : Addr) (ns : List Int) (v : Int), vs = [.ref st, .int v] ∧ StD H st ca ns ∧ 0 ≤ v ∧ v ≤ 2147483647 ∧ ∀ (t : List Nat) (H' : Hp), Dg t v → StD H' st ca ns → Frs st H H' → Q (.str (sl t)) H'
def spToken : Sp := fun vs H Q _ => ∃ (st ca : Addr) (ns : List Int), vs = [.ref st] ∧ StD H st ca ns ∧ ∀ (k v : V) (t : List Nat) (p : Addr) (H' : Hp), GoodTok k v t → t.length ≤ 30 → H p = none → H' p = some (.tup [k, v, .str (sl t)]) → StD H' st ca ns → Frs st H H' → Q (.ref p) H'
theorem StD.ne {H : Hp} {st ca D : Addr} {ns : List Int} (S : StD H st ca ns) (n : H D = none) : D ≠ st := by
  obtain ⟨_, _, _, _, _, _, e⟩ := S.at'
  exact (ne_of_none e n).symm
theorem StD.neC {H : Hp} {st ca D : Addr} {ns : List Int} (S : StD H st ca ns) (n : H D = none) : D ≠ ca := (ne_of_none S.ca' n).symm
theorem StD.upd {H : Hp} {st ca D : Addr} {ns : List Int} {o : HO} (S : StD H st ca ns) (n1 : D ≠ st) (n2 : D ≠ ca) : StD (upd H D o) st ca ns := by
  obtain ⟨i, d, n, t, b, z, e⟩ := S.at'
  exact ⟨⟨i, d, n, t, b, z, by rw [upd_ne n1.symm]; exact e⟩, by rw [upd_ne n2.symm]; exact S.ca'⟩
theorem frs_new {st p : Addr} {H : Hp} {o : HO} (n : H p = none) : Frs st H (upd H p o) := Frs.of (sN (Same.refl H) n)
theorem frs_free {st D : Addr} {H H1 : Hp} (f : Frs st H H1) (n : H1 D = none) (ne : D ≠ st) : H D = none := by
  cases e : H D with
  | none => rfl
  | some o => rw [f D o e ne] at n; cases n
theorem sl_app (a b : List Nat) : sl a ++ sl b = sl (a ++ b) := by
  show (⟨(sl a).cps ++ (sl b).cps⟩ : Str) = _
  simp [sl]
theorem num_sl (n : Nat) : Str.ofString (toString ((n : Nat) : Int)) = sl (TL.numL n) := by
  have e := TL.tl_num n
  have e2 : (Str.ofString (toString ((n : Nat) : Int))).cps.toList = TL.numL n := e
  rw [← e2, sl_self]
theorem val_zeros (n : Nat) (t : List Nat) : NumText.digitsVal (List.replicate n 48 ++ t) = NumText.digitsVal t := by
  induction n with
  | zero => rfl
  | succ n ih =>
    rw [List.replicate_succ, List.cons_append]
    exact ih
theorem digs {c : Nat} (h : 48 ≤ c ∧ c ≤ 57) : isIn zD c = true := by
  have e : zD.cps.toList = [48, 49, 50, 51, 52, 53, 54, 55, 56, 57] := by decide +kernel
  unfold isIn
  rw [e]
  have : c = 48 ∨ c = 49 ∨ c = 50 ∨ c = 51 ∨ c = 52 ∨ c = 53 ∨ c = 54 ∨ c = 55 ∨ c = 56 ∨ c = 57 := by omega
  simp [this]
/-! ### one sign, some times, to the sign -/
theorem rep_list (c : Nat) : ∀ (n : Nat) (acc : Array Nat), (List.replicate n #[c]).foldl (· ++ ·) acc = acc ++ (List.replicate n c).toArray
  | 0, acc => by simp
  | n + 1, acc => by
    rw [List.replicate_succ, List.foldl_cons, rep_list c n, List.replicate_succ]
    apply Array.ext'
    simp
def rRepX : R2 := fun x y H Q => ∃ (c : Nat) (n : Int), x = .str ⟨#[c]⟩ ∧ y = .int n ∧ -1000 ≤ n ∧ n ≤ 1000 ∧ Q (.str (sl (List.replicate n.toNat c))) H
theorem op_repX {X : Cx} : OpR X (binaryOp .Mult) rRepX := by
  intro pins s σ H x y v u Q I rx ry h
  obtain ⟨c, n, rfl, rfl, n0, n1, q⟩ := h
  obtain ⟨t, rfl⟩ := (show ∃ t, v = Value.str _ t from rx)
  obtain ⟨t', rfl⟩ := (show ∃ t, u = Value.int _ t from ry)
  have l1 : (⟨#[c]⟩ : Str).length = 1 := rfl
  have hsz := sizeLine_eq
  refine PySem.P.mul_str (by have h1 : ¬ n < -(2 ^ 63 : Int) := by omega
                             have h2 : ¬ n ≥ 2 ^ 63 := by omega
                             rw [decide_eq_false h1, decide_eq_false h2]; rfl) (fun h1 _ => ?_) (fun h1 _ => ?_) ?_
  · rw [l1]
    have : (1 : Int) ≤ (2 ^ 63 - 1) / n := by
      apply Int.le_ediv_of_mul_le (by omega)
      omega
    omega
  · rw [l1]
    show decide (1 * n.toNat > sizeLine) = false
    rw [hsz]
    exact decide_eq_false (by omega)
  · by_cases h1 : n < 1
    · rw [if_pos h1]
      rw [show n.toNat = 0 by omega] at q
      exact ⟨by decide, .str _, H, I.tok _, ⟨_, rfl⟩, q⟩
    · rw [if_neg h1]
      by_cases h2 : n = 1
      · subst h2
        rw [if_pos (by simp)]
        exact ⟨.str _, H, I, ⟨_, rfl⟩, q⟩
      · have h3 : (n == 1 || (⟨#[c]⟩ : Str).length == 0) = false := by
          rw [l1]
          simp [h2]
        rw [h3, if_neg Bool.false_ne_true]
        have hl : (⟨(List.replicate n.toNat #[c]).foldl (· ++ ·) #[]⟩ : Str) = sl (List.replicate n.toNat c) := by
          unfold sl
          rw [rep_list]
          simp
        rw [← hl] at q
        exact ⟨by show Str.length _ ≤ sizeLine; rw [hl, hsz, sl_len, List.length_replicate]; omega, .str _, H, I.tok _, ⟨_, rfl⟩, q⟩

section
variable {P : Program} {w : World} {K : PySem.W.Frag} {mg : Str → Option Value} {base : Heap} {a : Ad}
theorem ok_law_number (T : Txt K mg a) : FnOk P w K mg base CX0 4 a.f_law_number a.d_law_number ["state"] spNum := by
  have G_law_draw : FnOk P w K mg base CX0 3 _ _ _ _ := ok_law_draw T
  refine T.F__law_number.ok sc_law_number (fun vs H Q E h => ?_) (fun cdv A outer s H vs Q E hr h => ?_)
  · obtain ⟨_, _, _, rfl, _⟩ := h; rfl
  · obtain ⟨st, ca, ns, rfl, S, q⟩ := h
    refine ⟨_, (pss_cons (ps_set (i := 1) sc_law_number.nd rfl (Or.inl rfl) (pe_call G_law_draw (hr.mono (by decide)) rfl T.g__law_draw T.k__law_draw T.bd__law_draw .nil pass0 (pa_cons (pv 0) (pa_cons pe_int pa_nil))))
      (pss_cons (ps_if (pt_cmpR op_eq (pv 1) pe_int (nomark _)) (pss_one (ps_ret (pe_op op_sub pe_int (pe_call G_law_draw (hr.mono (by decide)) rfl T.g__law_draw T.k__law_draw T.bd__law_draw .nil pass0 (pa_cons (pv 0) (pa_cons pe_int pa_nil)))))) pss_nil)
      (pss_one (ps_ret (pe_call G_law_draw (hr.mono (by decide)) rfl T.g__law_draw T.k__law_draw T.bd__law_draw .nil pass0 (pa_cons (pv 0) (pa_cons (pe_ix ix_list (pe_lst (pa_cons pe_int (pa_cons pe_int (pa_cons pe_int pa_nil)))) (pe_op op_sub (pv 1) pe_int) (fun _ _ => rfl)) pa_nil))))))), ?_⟩
    refine ⟨_, rfl, st, ca, ns, 4, rfl, S, by decide, by decide, fun c H1 c0 c1 S1 f1 => ?_⟩
    refine ⟨_, rfl, rfl, _, rfl, ite3 (fun d1 => ?_) (fun d1 => ?_)⟩
    · exact ⟨_, rfl, st, ca, ns, 4, rfl, S1, by decide, by decide, fun v H2 v0 v1 S2 f2 => ⟨_, _, rfl, rfl, q _ H2 (by omega) (by omega) S2 (f1.tr f2)⟩⟩
    have n0 : c ≠ 0 := by simpa using d1
    obtain ⟨m, h1, m0, m1⟩ : ∃ m : Int, atI [V.int 10, .int 1000, .int 2147483648] (c - 1) = some (.int m) ∧ 0 < m ∧ m ≤ 2147483648 := by
      rcases (by omega : c = 1 ∨ c = 2 ∨ c = 3) with rfl | rfl | rfl
      · exact ⟨10, rfl, by decide, by decide⟩
      · exact ⟨1000, rfl, by decide, by decide⟩
      · exact ⟨2147483648, rfl, by decide, by decide⟩
    refine ⟨_, rfl, by decide, fun p np => ⟨_, rfl, _, _, rfl, rfl, _, _, _, _, rfl, rfl, SqL.of upd_same, h1, ?_⟩⟩
    exact ⟨st, ca, ns, m, rfl, S1.new np, m0, by omega, fun v H2 v0 v1 S2 f2 => q _ H2 v0 (by omega) S2 (f1.tr ((frs_new np).tr f2))⟩
theorem ok_law_digits (T : Txt K mg a) : FnOk P w K mg base CX0 4 a.f_law_digits a.d_law_digits ["state", "value"] spDig := by
  have G_law_draw : FnOk P w K mg base CX0 3 _ _ _ _ := ok_law_draw T
  refine T.F__law_digits.ok sc_law_digits (fun vs H Q E h => ?_) (fun cdv A outer s H vs Q E hr h => ?_)
  · obtain ⟨_, _, _, _, rfl, _⟩ := h; rfl
  · obtain ⟨st, ca, ns, v, rfl, S, v0, v1, q⟩ := h
    obtain ⟨n, rfl⟩ : ∃ n : Nat, v = (n : Int) := ⟨v.toNat, by omega⟩
    have hz := sizeLine_eq
    have hlen : (TL.numL n).length ≤ 10 := TL.numL_len (by decide) (by omega)
    have hb : ((n : Nat) : Int).natAbs.log2 < 1920 := by
      have e : ((n : Nat) : Int).natAbs < 2 ^ 40 := by omega
      by_cases h0 : ((n : Nat) : Int).natAbs = 0
      · rw [h0]; decide
      · exact Nat.lt_trans ((Nat.log2_lt h0).mpr e) (by decide)
    have hd : Dg (TL.numL n) n := ⟨fun c hc => digs (TL.numL_digits n c hc), TL.numL_ne n, hlen, by rw [TL.numL_val]⟩
    refine ⟨_, (pss_cons (ps_set (i := 2) sc_law_digits.nd rfl (Or.inl rfl) (pe_callTy call_str_int (by rfl) T.b_str (by decide +kernel) (pa_cons (pv 1) pa_nil)))
      (pss_cons (ps_if (pt_cmpR op_gt (pe_call G_law_draw (hr.mono (by decide)) rfl T.g__law_draw T.k__law_draw T.bd__law_draw .nil pass0 (pa_cons (pv 0) (pa_cons pe_int pa_nil))) pe_int (nomark _)) (pss_one (ps_ret (pv 2))) pss_nil)
      (pss_one (ps_ret (pe_op op_add_str (pe_op op_repX pe_str (pe_call G_law_draw (hr.mono (by decide)) rfl T.g__law_draw T.k__law_draw T.bd__law_draw .nil pass0 (pa_cons (pv 0) (pa_cons (pe_op op_sub pe_int (pe_callB call_len_str (by rfl) T.b_len (by decide +kernel) (pa_cons (pv 2) pa_nil))) pa_nil)))) (pv 2)))))), ?_⟩
    refine ⟨_, rfl, _, rfl, hb, ?_⟩
    rw [num_sl]
    refine ⟨_, rfl, st, ca, ns, 4, rfl, S, by decide, by decide, fun c H1 c0 c1 S1 f1 => ?_⟩
    refine ⟨_, _, rfl, rfl, _, rfl, ite3 (fun d1 => ?_) (fun d1 => ?_)⟩
    · exact ⟨_, rfl, q _ H1 hd S1 f1⟩
    · have hl1 : 1 ≤ (TL.numL n).length := List.length_pos_iff.mpr (TL.numL_ne n)
      refine ⟨_, rfl, _, rfl, _, rfl, (by rw [sl_len]; omega), _, _, rfl, rfl, st, ca, ns, _, rfl, S1, (by rw [sl_len]; omega), (by rw [sl_len]; omega), fun y H2 y0 y1 S2 f2 => ?_⟩
      rw [sl_len] at y1
      refine ⟨48, y, rfl, rfl, by omega, by omega, _, rfl, _, _, rfl, rfl, by rw [sl_len, sl_len, List.length_replicate]; omega, ?_⟩
      rw [sl_app]
      refine q _ H2 ⟨fun c hc => ?_, by simp [TL.numL_ne], by rw [List.length_append, List.length_replicate]; omega, by rw [val_zeros, TL.numL_val]⟩ S2 (f1.tr f2)
      rcases List.mem_append.mp hc with hc | hc
      · rw [(List.mem_replicate.mp hc).2]; exact digs (by omega)
      · exact hd.1 c hc
theorem ok_law_name (T : Txt K mg a) : FnOk P w K mg base CX0 4 a.f_law_name a.d_law_name ["state"] spName := by
  have G_law_draw : FnOk P w K mg base CX0 3 _ _ _ _ := ok_law_draw T
  have G_law_reserved : FnOk P w K mg base CX0 1 _ _ _ _ := ok_law_reserved T
  refine T.F__law_name.ok sc_law_name (fun vs H Q E h => ?_) (fun cdv A outer s H vs Q E hr h => ?_)
  · obtain ⟨_, _, _, rfl, _⟩ := h; rfl
  · obtain ⟨st, ca, ns, rfl, S, q⟩ := h
    have hz := sizeLine_eq
    have hNz : ("abcdefghijklmnopqrstuvwxyz0123456789_" : Str).length ≤ sizeLine := by decide +kernel
    have hN := chars37
    refine ⟨_, (pss_cons (ps_set (i := 1) sc_law_name.nd rfl (Or.inl rfl) pe_str)
      (pss_cons (ps_set (i := 2) sc_law_name.nd rfl (Or.inl rfl) (pe_op op_add pe_int (pe_call G_law_draw (hr.mono (by decide)) rfl T.g__law_draw T.k__law_draw T.bd__law_draw .nil pass0 (pa_cons (pv 0) (pa_cons pe_int pa_nil)))))
      (pss_cons (ps_set (i := 3) sc_law_name.nd rfl (Or.inl rfl) (pe_call G_law_draw (hr.mono (by decide)) rfl T.g__law_draw T.k__law_draw T.bd__law_draw .nil pass0 (pa_cons (pv 0) (pa_cons pe_int pa_nil))))
      (C8.pss_cut (ps_if (pt_cmpR op_eq (pv 3) pe_int (nomark _)) (pss_one (ps_set (i := 2) sc_law_name.nd rfl (Or.inl rfl) (pe_op op_add pe_int (pe_call G_law_draw (hr.mono (by decide)) rfl T.g__law_draw T.k__law_draw T.bd__law_draw .nil pass0 (pa_cons (pv 0) (pa_cons pe_int pa_nil)))))) pss_nil)
      (pss_cons (ps_if (pt_cmpR op_eq (pv 3) pe_int (nomark _)) (pss_one (ps_ret (pe_ix ix_list (pe_lst (pa_cons pe_str (pa_cons pe_str (pa_cons pe_str (pa_cons pe_str (pa_cons pe_str (pa_cons pe_str pa_nil))))))) (pe_call G_law_draw (hr.mono (by decide)) rfl T.g__law_draw T.k__law_draw T.bd__law_draw .nil pass0 (pa_cons (pv 0) (pa_cons pe_int pa_nil))) (fun _ _ => rfl)))) pss_nil)
      (pss_cons (ps_set (i := 4) sc_law_name.nd rfl (Or.inl rfl) (pe_ix ix_str (pv 1) (pe_call G_law_draw (hr.mono (by decide)) rfl T.g__law_draw T.k__law_draw T.bd__law_draw .nil pass0 (pa_cons (pv 0) (pa_cons pe_int pa_nil))) (fun _ _ => rfl)))
      (pss_cons (ps_for PassesOwn.never rfl (pi_range1 rfl T.b_range (pa_cons (pe_op op_sub (pv 2) pe_int) pa_nil)) (pg_name (i := 5) sc_law_name.nd rfl (Or.inl rfl)) (pss_cons (ps_set (i := 6) sc_law_name.nd rfl (Or.inl rfl) (pe_ix ix_str (pv 1) (pe_call G_law_draw (hr.mono (by decide)) rfl T.g__law_draw T.k__law_draw T.bd__law_draw .nil pass0 (pa_cons (pv 0) (pa_cons pe_int pa_nil))) (fun _ _ => rfl)))
      (C8.pss_cut (ps_if (PW.pt (pw_and (pt_cmpR op_eq (pv 6) pe_str (nomark _)) (pw_and1 (PW.pt (pw_or (pt_cmpR op_eq (pv 5) (pe_op op_sub (pv 2) pe_int) (nomark _)) (pw_or1 (pt_cmpR op_eq (pe_ix ix_str (pv 4) (pe_un un_neg pe_int) (fun _ _ => rfl)) pe_str (nomark _)))))))) (pss_one (ps_set (i := 6) sc_law_name.nd rfl (Or.inl rfl) pe_str)) pss_nil)
      (pss_one (ps_set (i := 4) sc_law_name.nd rfl (Or.inl rfl) (pe_op op_add_str (pv 4) (pv 6)))))))
      (pss_cons (ps_if (pt_cmpR op_inS (pv 4) (pe_call0 G_law_reserved (hr.mono (by decide)) rfl T.g__law_reserved T.k__law_reserved T.bd__law_reserved .nil pass0) rfl) (pss_one (ps_set (i := 4) sc_law_name.nd rfl (Or.inl rfl) (pe_op op_add_str (pv 4) pe_str))) pss_nil)
      (pss_one (ps_ret (pv 4))))))))))), ?_⟩
    refine ⟨_, rfl, st, ca, ns, 3, rfl, S, by decide, by decide, fun s1 H1 s10 s11 S1 f1 => ⟨_, _, rfl, rfl, ?_⟩⟩
    refine ⟨_, rfl, st, ca, ns, 12, rfl, S1, by decide, by decide, fun c H2 c0 c1 S2 f2 => ?_⟩
    refine ⟨fun σ H' => ∃ (c v : Int), 1 ≤ v ∧ v ≤ 30 ∧ σ = [some (.ref st), some (.str "abcdefghijklmnopqrstuvwxyz0123456789_"), some (.int v), some (.int c), none, none, none] ∧ StD H' st ca ns ∧ Frs st H H', ?_, ?_⟩
    · refine ⟨_, rfl, rfl, _, rfl, ite3 (fun d1 => ?_) (fun d1 => ?_)⟩
      · exact ⟨_, rfl, st, ca, ns, 30, rfl, S2, by decide, by decide, fun v H3 v0 v1 S3 f3 => ⟨_, _, rfl, rfl, c, 1 + v, by omega, by omega, rfl, S3, (f1.tr f2).tr f3⟩⟩
      · exact ⟨c, 1 + s1, by omega, by omega, rfl, S2, f1.tr f2⟩
    clear S1 S2 f1 f2 c0 c1
    rintro σ H2 ⟨c, v, v0, v1, rfl, S2, f2⟩
    refine ⟨_, rfl, rfl, _, rfl, ite3 (fun d1 => ?_) (fun d1 => ?_)⟩
    · refine ⟨by decide, fun p np => ⟨_, rfl, st, ca, ns, 6, rfl, S2.new np, by decide, by decide, fun y H3 y0 y1 S3 f3 => ?_⟩⟩
      have hp := f3 p _ upd_same (StD.ne S2 np)
      obtain ⟨t, ht, hat⟩ : ∃ t : List Nat, Nm t ∧ atI [V.str "first", .str "last", .str "integer", .str "boolean", .str "end_error", .str "constraint_error"] y = some (.str (sl t)) := by
        have hw : ∀ z ∈ (["first", "last", "integer", "boolean", "end_error", "constraint_error"] : List String).map Str.ofString, (match z.cps.toList with | x :: _ => isIn zL x | [] => false) = true ∧ (∀ c ∈ z.cps.toList, isIn zN c = true) ∧ z ∉ resvs ∧ z.cps.toList.length ≤ 30 ∧ stN false z.cps.toList = some true := by decide +kernel
        have hnm : ∀ z ∈ (["first", "last", "integer", "boolean", "end_error", "constraint_error"] : List String).map Str.ofString, Nm z.cps.toList := fun z hz => by
          obtain ⟨h1, h2, h3, h4, h5⟩ := hw z hz
          refine ⟨?_, by rw [in_res, sl_self]; exact decide_eq_false h3, h4, parts_ok h5⟩
          cases e : z.cps.toList with
          | nil => rw [e] at h1; cases h1
          | cons x r => rw [e] at h1 h2; exact ⟨x, r, rfl, h1, h2⟩
        have hlt : y.toNat < ((["first", "last", "integer", "boolean", "end_error", "constraint_error"] : List String).map Str.ofString).length := by show y.toNat < 6; omega
        refine ⟨_, hnm _ (List.getElem_mem hlt), ?_⟩
        have hh := atI_nat (j := y.toNat) (xs := ((["first", "last", "integer", "boolean", "end_error", "constraint_error"] : List String).map Str.ofString).map V.str) (v := V.str (((["first", "last", "integer", "boolean", "end_error", "constraint_error"] : List String).map Str.ofString)[y.toNat])) (by rw [List.getElem?_map, List.getElem?_eq_getElem hlt]; rfl)
        rw [show ((y.toNat : Nat) : Int) = y by omega] at hh
        rw [sl_self]
        exact hh
      exact ⟨_, _, _, _, rfl, rfl, SqL.of hp, hat, q t H3 ht S3 (f2.tr ((frs_new np).tr f3))⟩
    · refine ⟨_, rfl, _, rfl, st, ca, ns, 26, rfl, S2, by decide, by decide, fun y H3 y0 y1 S3 f3 => ?_⟩
      obtain ⟨x, hx, hxm, hx2⟩ := at_in (l := ("abcdefghijklmnopqrstuvwxyz0123456789_" : Str).cps.toList) y0 (by omega)
      have hxL := first26 y0 (by omega) hx2
      have x95 : x ≠ 95 := by
        have e : ∀ y ∈ zL.cps.toList, y ≠ 95 := by decide +kernel
        unfold isIn at hxL
        exact e x (of_decide_eq_true hxL)
      refine ⟨_, _, x, rfl, rfl, hNz, hx, ?_⟩
      refine ⟨_, rfl, _, _, rfl, rfl, v - 1, rfl, by omega, by omega, for_range (lo := 0) (n := (v - 1).toNat) (fun i σ H' => ∃ (r xs : List Nat) (y : Nat) (o1 o2 : Option V), σ = [some (.ref st), some (.str "abcdefghijklmnopqrstuvwxyz0123456789_"), some (.int v), some (.int c), some (.str (sl (xs ++ [y]))), o1, o2] ∧ xs ++ [y] = x :: r ∧ (∀ c ∈ xs ++ [y], isIn zN c = true) ∧ (xs ++ [y]).length = i + 1 ∧ stN false (xs ++ [y]) = some (decide (y ≠ 95)) ∧ (y = 95 → i < (v - 1).toNat) ∧ StD H' st ca ns ∧ Frs st H H') ⟨[], [], x, none, none, rfl, rfl, fun c hc => ?_, rfl, ?_, fun e => absurd e x95, S3, f2.tr f3⟩ ?_ ?_⟩
      · rw [List.mem_singleton.mp hc]; exact zL_N hxL
      · show (if x = 95 then _ else some true) = _
        rw [if_neg x95, decide_eq_true x95]
      · rintro i σ H' hi ⟨r, xs, y, o1, o2, rfl, hr1, hall, hlen, hst, h95, S4, f4⟩
        refine ⟨_, rfl, _, rfl, st, ca, ns, 37, rfl, S4, by decide, by decide, fun u H5 u0 u1 S5 f5 => ?_⟩
        obtain ⟨d, hd, hdm, _⟩ := at_in (l := ("abcdefghijklmnopqrstuvwxyz0123456789_" : Str).cps.toList) u0 (by omega)
        refine ⟨_, _, d, rfl, rfl, hNz, hd, ?_⟩
        refine ⟨fun σ H' => H' = H5 ∧ ∃ d : Nat, isIn zN d = true ∧ (d = 95 → y ≠ 95 ∧ i + 1 < (v - 1).toNat) ∧ σ = [some (.ref st), some (.str "abcdefghijklmnopqrstuvwxyz0123456789_"), some (.int v), some (.int c), some (.str (sl (xs ++ [y]))), some (.int (0 + (i : Int))), some (.str (sl [d]))], ?_, ?_⟩
        · have hdN : isIn zN d = true := decide_eq_true hdm
          refine ⟨_, rfl, rfl, _, rfl, ite3 (fun t1 => ?_) (fun t1 => ?_)⟩
          · refine ⟨_, rfl, _, rfl, _, _, rfl, rfl, rfl, _, rfl, ite3 (fun t2 => ?_) (fun t2 => ?_)⟩
            · exact ⟨rfl, 97, by decide +kernel, fun e => by omega, rfl⟩
            · refine ⟨_, rfl, 1, rfl, _, _, y, rfl, rfl, (by rw [sl_len]; omega), (by rw [sl_list]; exact last_at), rfl, _, rfl, ite3 (fun t3 => ?_) (fun t3 => ?_)⟩
              · exact ⟨rfl, 97, by decide +kernel, fun e => by omega, rfl⟩
              · rw [chr_eq y 95 _ (by decide +kernel)] at t3
                have y95 := of_decide_eq_false t3
                have t2' : (0 : Int) + (i : Int) ≠ v - 2 := by simpa using t2
                exact ⟨rfl, d, hdN, fun _ => ⟨y95, by omega⟩, rfl⟩
          · rw [chr_eq d 95 _ (by decide +kernel)] at t1
            exact ⟨rfl, d, hdN, fun e => absurd e (of_decide_eq_false t1), rfl⟩
        · rintro σ H' ⟨rfl, d, hdN, hd95, rfl⟩
          refine ⟨_, rfl, _, rfl, _, _, rfl, rfl, (by rw [sl_len, sl_len]; show _ + 1 ≤ sizeLine; omega), ?_⟩
          refine ⟨r ++ [d], xs ++ [y], d, _, _, by rw [sl_app]; rfl, by rw [hr1]; rfl, fun c hc => ?_, by rw [List.length_append, hlen]; rfl, ?_, fun e => (hd95 e).2, S5, f4.tr f5⟩
          · rcases List.mem_append.mp hc with hc | hc
            · exact hall c hc
            · rw [List.mem_singleton.mp hc]; exact hdN
          · rw [stN_app, hst]
            show (if d = 95 then (if decide (y ≠ 95) = true then some false else none) else some true) = _
            by_cases e : d = 95
            · rw [if_pos e, if_pos (decide_eq_true (hd95 e).1), decide_eq_false (fun z => z e)]
            · rw [if_neg e, decide_eq_true e]
      · rintro σ H' ⟨r, xs, y, o1, o2, rfl, hr1, hall, hlen, hst, h95, S4, f4⟩
        have y95 : y ≠ 95 := fun e => by have := h95 e; omega
        rw [decide_eq_true y95] at hst
        generalize xs ++ [y] = t at hr1 hall hlen hst
        have hw : Wd t := ⟨x, r, hr1, hxL, hall⟩
        refine ⟨_, rfl, rfl, fun p np => ⟨p, vRES, rfl, .inl (SqL.of upd_same), rfl, by decide +kernel, _, rfl, ite3 (fun d1 => ?_) (fun d1 => ?_)⟩⟩
        · have d1' := d1
          rw [in_res] at d1'
          have hm := of_decide_eq_true d1'
          have hres : ∀ z ∈ resvs, z.cps.toList.length ≤ 9 ∧ z.cps.toList.getLast? ≠ some 48 := by decide +kernel
          have h9 := (hres _ hm).1
          rw [sl_list] at h9
          refine ⟨_, rfl, _, _, rfl, rfl, (by rw [sl_len]; show _ + 1 ≤ sizeLine; omega), _, rfl, ?_⟩
          have e0 : ("0" : Str) = sl [48] := by decide +kernel
          rw [e0, sl_app]
          refine q (t ++ [48]) _ ⟨⟨x, r ++ [48], by rw [hr1]; rfl, hxL, fun c hc => ?_⟩, ?_, by rw [List.length_append]; show _ + 1 ≤ 30; omega, parts_ok ?_⟩ (S4.new np) (f4.tr (frs_new np))
          · rcases List.mem_append.mp hc with hc | hc
            · exact hall c hc
            · rw [List.mem_singleton.mp hc]; decide +kernel
          · rw [in_res]
            refine decide_eq_false fun z => (hres _ z).2 ?_
            rw [sl_list]; simp
          · rw [stN_app, hst]; rfl
        · exact ⟨_, rfl, q t _ ⟨hw, d1, by omega, parts_ok hst⟩ (S4.new np) (f4.tr (frs_new np))⟩
theorem ok_law_token (T : Txt K mg a) : FnOk P w K mg base CX0 5 a.f_law_token a.d_law_token ["state"] spToken := by
  have G_law_draw : FnOk P w K mg base CX0 3 _ _ _ _ := ok_law_draw T
  have G_law_reserved : FnOk P w K mg base CX0 1 _ _ _ _ := ok_law_reserved T
  have G_law_name : FnOk P w K mg base CX0 4 _ _ _ _ := ok_law_name T
  have G_law_number : FnOk P w K mg base CX0 4 _ _ _ _ := ok_law_number T
  have G_law_digits : FnOk P w K mg base CX0 4 _ _ _ _ := ok_law_digits T
  refine T.F__law_token.ok sc_law_token (fun vs H Q E h => ?_) (fun cdv A outer s H vs Q E hr h => ?_)
  · obtain ⟨_, _, _, rfl, _⟩ := h; rfl
  · obtain ⟨st, ca, ns, rfl, S, q⟩ := h
    have c3s : 3 ≤ sizeLine := by decide
    obtain ⟨zs, hzs⟩ : ∃ zs : List Str, zs = ([":=", "=>", "..", "/=", "<=", ">=", "(", ")", ",", ":", ";", "'", "|", "+", "-", "*", "/", "=", "<", ">"] : List String).map Str.ofString := ⟨_, rfl⟩
    have hsg : ∀ z ∈ zs, z.cps.toList ∈ longs ∨ (match z.cps.toList with | [x] => isIn zS x | _ => false) = true := by rw [hzs]; decide +kernel
    have hln : zs.length = 20 := by rw [hzs]; rfl
    refine ⟨_, (pss_cons (ps_set (i := 1) sc_law_token.nd rfl (Or.inl rfl) (pe_lst (pa_cons pe_str (pa_cons pe_str (pa_cons pe_str (pa_cons pe_str (pa_cons pe_str (pa_cons pe_str (pa_cons pe_str (pa_cons pe_str (pa_cons pe_str (pa_cons pe_str (pa_cons pe_str (pa_cons pe_str (pa_cons pe_str (pa_cons pe_str (pa_cons pe_str (pa_cons pe_str (pa_cons pe_str (pa_cons pe_str (pa_cons pe_str (pa_cons pe_str pa_nil))))))))))))))))))))))
      (pss_cons (ps_set (i := 2) sc_law_token.nd rfl (Or.inl rfl) (pe_call G_law_draw (hr.mono (by decide)) rfl T.g__law_draw T.k__law_draw T.bd__law_draw .nil pass0 (pa_cons (pv 0) (pa_cons pe_int pa_nil))))
      (pss_cons (ps_if (pt_cmpR op_eq (pv 2) pe_int (nomark _)) (pss_cons (ps_set (i := 3) sc_law_token.nd rfl (Or.inl rfl) (pe_ix ix_list (pe_call0 G_law_reserved (hr.mono (by decide)) rfl T.g__law_reserved T.k__law_reserved T.bd__law_reserved .nil pass0) (pe_call G_law_draw (hr.mono (by decide)) rfl T.g__law_draw T.k__law_draw T.bd__law_draw .nil pass0 (pa_cons (pv 0) (pa_cons pe_int pa_nil))) (fun _ _ => rfl)))
      (pss_one (ps_ret (pe_tup (pa_cons pe_str (pa_cons (pv 3) (pa_cons (pv 3) pa_nil))))))) pss_nil)
      (pss_cons (ps_if (pt_cmpR op_eq (pv 2) pe_int (nomark _)) (pss_cons (ps_set (i := 4) sc_law_token.nd rfl (Or.inl rfl) (pe_call G_law_name (hr.mono (by decide)) rfl T.g__law_name T.k__law_name T.bd__law_name .nil pass0 (pa_cons (pv 0) pa_nil)))
      (pss_one (ps_ret (pe_tup (pa_cons pe_str (pa_cons (pv 4) (pa_cons (pv 4) pa_nil))))))) pss_nil)
      (pss_cons (ps_if (pt_cmpR op_eq (pv 2) pe_int (nomark _)) (pss_cons (ps_set (i := 5) sc_law_token.nd rfl (Or.inl rfl) (pe_call G_law_number (hr.mono (by decide)) rfl T.g__law_number T.k__law_number T.bd__law_number .nil pass0 (pa_cons (pv 0) pa_nil)))
      (pss_one (ps_ret (pe_tup (pa_cons pe_str (pa_cons (pv 5) (pa_cons (pe_call G_law_digits (hr.mono (by decide)) rfl T.g__law_digits T.k__law_digits T.bd__law_digits .nil pass0 (pa_cons (pv 0) (pa_cons (pv 5) pa_nil))) pa_nil))))))) pss_nil)
      (pss_cons (ps_set (i := 6) sc_law_token.nd rfl (Or.inl rfl) (pe_ix ix_list (pv 1) (pe_call G_law_draw (hr.mono (by decide)) rfl T.g__law_draw T.k__law_draw T.bd__law_draw .nil pass0 (pa_cons (pv 0) (pa_cons pe_int pa_nil))) (fun _ _ => rfl)))
      (pss_one (ps_ret (pe_tup (pa_cons pe_str (pa_cons (pv 6) (pa_cons (pv 6) pa_nil)))))))))))), ?_⟩
    refine ⟨by decide, fun p np => ?_⟩
    have hp0 : upd H p (.lst (zs.map V.str)) p = some (.lst (zs.map V.str)) := upd_same
    rw [hzs] at hp0
    refine ⟨_, rfl, st, ca, ns, 4, rfl, S.new np, by decide, by decide, fun c H1 c0 c1 S1 f1 => ?_⟩
    have nps : p ≠ st := S.ne np
    have hp := f1 p _ upd_same nps
    have f1' : Frs st H H1 := (frs_new np).tr f1
    have new : ∀ {t H'}, StD H' st ca ns → Frs st H1 H' → H' t = none → H t = none := fun {t H'} S' f' nt => frs_free (f1'.tr f') nt (StD.ne S' nt)
    refine ⟨_, rfl, rfl, _, rfl, ite3 (fun d1 => ?_) (fun d1 => ?_)⟩
    · refine ⟨rfl, fun p2 np2 => ?_⟩
      refine ⟨_, rfl, st, ca, ns, 41, rfl, S1.new np2, by decide, by decide, fun v H2 v0 v1 S2 f2 => ?_⟩
      have hp2 := f2 p2 _ upd_same (StD.ne S1 np2)
      have hlt : v.toNat < resvs.length := by show v.toNat < 41; omega
      have hat : atI vRES v = some (.str resvs[v.toNat]) := by
        rw [res_eq]
        have hh := atI_nat (j := v.toNat) (xs := resvs.map V.str) (v := V.str resvs[v.toNat]) (by simp [hlt])
        rwa [show ((v.toNat : Nat) : Int) = v by omega] at hh
      have hs : ∀ z ∈ resvs, z.cps.toList.length ≤ 30 ∧ (match z.cps.toList with | x :: _ => isIn zL x | [] => false) = true ∧ ∀ c ∈ z.cps.toList, isIn zN c = true := by decide +kernel
      have hm := List.getElem_mem hlt
      generalize resvs[v.toNat] = z at hat hm
      obtain ⟨h1, h2, h3⟩ := hs z hm
      refine ⟨_, _, _, _, rfl, rfl, SqL.of hp2, hat, _, rfl, _, rfl, c3s, fun t nt => ?_⟩
      have g : GoodTok (.str "word") (.str (sl z.cps.toList)) z.cps.toList := .word (by
        cases e : z.cps.toList with
        | nil => rw [e] at h2; cases h2
        | cons x r => rw [e] at h2 h3; exact ⟨x, r, rfl, h2, h3⟩) (by rw [in_res, sl_self]; exact decide_eq_true hm)
      have f2' := (frs_new (st := st) (o := .lst vRES) np2).tr f2
      refine q _ _ _ t _ g h1 (new S2 f2' nt) ?_ (S2.new nt) ((f1'.tr f2').tr (frs_new nt))
      rw [upd_same, sl_self]
    have n0 : c ≠ 0 := by simpa using d1
    refine ⟨_, rfl, rfl, _, rfl, ite3 (fun d2 => ?_) (fun d2 => ?_)⟩
    · refine ⟨_, rfl, st, ca, ns, rfl, S1, fun z H2 hz S2 f2 => ⟨_, rfl, _, rfl, c3s, fun t nt => ?_⟩⟩
      exact q _ _ z t _ (.name hz.1 hz.2.1 hz.2.2.1 hz.2.2.2) hz.2.2.1 (new S2 f2 nt) upd_same (S2.new nt) ((f1'.tr f2).tr (frs_new nt))
    have n1 : c ≠ 1 := by simpa using d2
    refine ⟨_, rfl, rfl, _, rfl, ite3 (fun d3 => ?_) (fun d3 => ?_)⟩
    · refine ⟨_, rfl, st, ca, ns, rfl, S1, fun v H2 v0 v1 S2 f2 => ⟨_, rfl, _, rfl, _, rfl, st, ca, ns, v, rfl, S2, v0, v1, fun z H3 hz S3 f3 => ⟨c3s, fun t nt => ?_⟩⟩⟩
      obtain ⟨h1, h2, h3, h4⟩ := hz
      subst h4
      exact q _ _ z t _ (.num h1 h2 h3 v1) (by omega) (new S3 (f2.tr f3) nt) upd_same (S3.new nt) (((f1'.tr f2).tr f3).tr (frs_new nt))
    · refine ⟨_, rfl, _, rfl, st, ca, ns, 20, rfl, S1, by decide, by decide, fun v H2 v0 v1 S2 f2 => ?_⟩
      have hp2 := f2 p _ hp nps
      have hlt : v.toNat < zs.length := by omega
      have hat := atI_nat (j := v.toNat) (xs := zs.map V.str) (v := V.str zs[v.toNat]) (by simp [hlt])
      rw [show ((v.toNat : Nat) : Int) = v by omega] at hat
      have hm := hsg _ (List.getElem_mem hlt)
      generalize zs[v.toNat] = z at hat hm
      rw [hzs] at hat
      refine ⟨_, _, _, _, rfl, rfl, SqL.of hp2, hat, _, rfl, _, rfl, c3s, fun t nt => ?_⟩
      have g : GoodTok (.str "sign") (.str (sl z.cps.toList)) z.cps.toList ∧ z.cps.toList.length ≤ 30 := by
        rcases hm with hm | hm
        · have : ∀ t ∈ longs, t.length ≤ 30 := by decide
          exact ⟨.long hm, this _ hm⟩
        · match e : z.cps.toList, hm with
          | [x], hm => exact ⟨.short hm, by simp⟩
      refine q _ _ _ t _ g.1 g.2 (new S2 f2 nt) ?_ (S2.new nt) ((f1'.tr f2).tr (frs_new nt))
      rw [upd_same, sl_self]
end

/-! ### a gap -/
theorem for_txt {x : Str} {g : TG} {tb : TS} {D : Ends} {σ : St} {H : Hp} (Pv : Nat → St → Hp → Prop) (h0 : Pv 0 σ H)
    (hs : ∀ i c σ H, x.cps[i]? = some c → Pv i σ H → g (.str ⟨#[c]⟩) σ H fun σ2 H2 => tb { D with nx := Pv (i + 1), ct := Pv (i + 1), bk := D.nx } σ2 H2) (hd : ∀ σ H, Pv x.cps.size σ H → D.nx σ H) :
    ∃ W : Nat → Nat → St → Hp → Prop, (∃ m, W 0 m σ H) ∧ ∀ i m σ H, W i m σ H →
      ((Its x).stop i H ∧ D.nx σ H) ∨ ((Its x).go i H ∧ ∃ N : St → Hp → Prop, (∀ σ' H', N σ' H' → ∃ m', m' < m ∧ W (i + 1) m' σ' H') ∧ ∀ v H', (Its x).yld i H v H' → g v σ H' fun σ2 H2 => tb { D with nx := N, ct := N, bk := D.nx } σ2 H2) := by
  refine ⟨fun i m σ H => m = x.cps.size - i ∧ i ≤ x.cps.size ∧ Pv i σ H, ⟨x.cps.size, by simp, Nat.zero_le _, h0⟩, ?_⟩
  rintro i m σ H ⟨rfl, hi, p⟩
  by_cases hlt : i < x.cps.size
  · refine .inr ⟨hlt, Pv (i + 1), fun σ' H' p' => ⟨x.cps.size - (i + 1), by omega, rfl, hlt, p'⟩, fun v H' y => ?_⟩
    obtain ⟨e1, c, hc, e2⟩ := y
    subst e1; subst e2
    exact hs i c σ _ hc p
  · have e : i = x.cps.size := by omega
    subst e
    exact .inl ⟨Nat.le_refl _, hd σ H p⟩
theorem join_sl : ∀ cs : List Nat, Txt.join (Str.ofString "") (cs.map fun c => sl [c]) = sl cs := by
  have e0 : Str.ofString "" = sl [] := by decide +kernel
  rw [e0]
  have h : ∀ cs : List Nat, Str.join (sl []) (cs.map fun c => sl [c]) = sl cs := by
    intro cs
    induction cs with
    | nil => rfl
    | cons x r ih =>
      cases r with
      | nil => rfl
      | cons y r =>
        show sl [x] ++ sl [] ++ Str.join (sl []) ((y :: r).map fun c => sl [c]) = _
        rw [ih, sl_app, sl_app]
        rfl
  intro cs
  show Builtin.Str.glued (sl []) (cs.map fun c => sl [c]) = _
  rw [StrLaws.glued_eq_join]
  exact h cs
theorem ones_sum (cs : List Nat) : ((cs.map fun c => sl [c]).map (·.length)).sum = cs.length := by
  induction cs with
  | nil => rfl
  | cons x r ih =>
    rw [List.map_cons, List.map_cons, List.sum_cons, ih, sl_len, List.length_cons]
    simp
    omega
def Ones (D st ca : Addr) (ns : List Int) (H : Hp) (i : Nat) (H' : Hp) : Prop := ∃ cs : List Nat, cs.length = i ∧ 10 ∉ cs ∧ H' D = some (.lst ((cs.map fun c => sl [c]).map V.str)) ∧ StD H' st ca ns ∧ Frs st H H'
theorem ones_start {D st ca : Addr} {ns : List Int} {H H1 : Hp} (S : StD H1 st ca ns) (f : Frs st H H1) (n : H1 D = none) : Ones D st ca ns H 0 (upd H1 D (.lst [])) :=
  ⟨[], rfl, by simp, upd_same, S.new n, f.tr (frs_new n)⟩
theorem ones_more {D st ca : Addr} {ns : List Int} {H H2 H3 : Hp} {i : Nat} (hi : i ≤ 1000) (o : Ones D st ca ns H i H2) (nD : H D = none) (n1 : D ≠ st) (n2 : D ≠ ca) (S3 : StD H3 st ca ns) (f3 : Frs st H2 H3) (c : Nat) (hc : c ≠ 10) :
    ∃ acc, H3 D = some (.lst acc) ∧ acc.length < sizeLine ∧ Ones D st ca ns H (i + 1) (upd H3 D (.lst (acc ++ [.str (sl [c])]))) := by
  obtain ⟨cs, hl, h10, hD, S2, f2⟩ := o
  refine ⟨_, f3 D _ hD n1, small1000 (by simp; omega), cs ++ [c], by simp [hl], ?_, by rw [upd_same]; simp, S3.upd n1 n2, fun b u e nb => ?_⟩
  · intro z
    rcases List.mem_append.mp z with z | z
    · exact h10 z
    · exact hc (List.mem_singleton.mp z).symm
  · rw [upd_ne (ne_of_none e nD)]
    exact (f2.tr f3) b u e nb
def SepC (b : List Nat) (x : Nat) : Prop := ¬ (lastN b ∧ isIn zN x = true) ∧ b ++ [x] ∉ longs ∧ b ++ [x] ≠ [45, 45]
def Joins (b a : List Nat) : Prop := b = [] ∨ a = [] ∨ ∃ x r, a = x :: r ∧ SepC b x
def spGap : Sp := fun vs H Q _ => ∃ (st ca : Addr) (ns : List Int) (b a : List Nat), vs = [.ref st, .str (sl b), .str (sl a)] ∧ StD H st ca ns ∧ b.length ≤ 100 ∧ a.length ≤ 100 ∧
  ∀ (g : List Nat) (H' : Hp), GapB b g → (g = [] → Joins b a) → g.length ≤ 10 → StD H' st ca ns → Frs st H H' → Q (.str (sl g)) H'
theorem last1 (b : List Nat) (y : Nat) : cutS (sl (b ++ [y])) (some (-1)) none = sl [y] := by
  unfold cutS
  rw [HT.sIx_none, sl_list, sl_len]
  show sl _ = sl _
  refine congrArg sl ?_
  have e : HT.sIx (b ++ [y]).length 0 (some (-1)) = b.length := by
    show (if (-1 : Int) < 0 then ((-1 : Int) + (((b ++ [y]).length : Nat) : Int)).toNat else min (-1 : Int).toNat (b ++ [y]).length) = b.length
    rw [if_pos (by omega), List.length_append]
    simp
    omega
  rw [e, List.drop_left]
  simp
theorem last0 : cutS (sl []) (some (-1)) none = sl [] := rfl
def signs7 : List (List Nat) := longs ++ [[45, 45]]
section
variable {P : Program} {w : World} {K : PySem.W.Frag} {mg : Str → Option Value} {base : Heap} {a : Ad}
theorem ok_law_gap (T : Txt K mg a) : FnOk P w K mg base CX0 6 a.f_law_gap a.d_law_gap ["state", "before", "after"] spGap := by
  have G_law_draw : FnOk P w K mg base CX0 3 _ _ _ _ := ok_law_draw T
  have G_law_char : FnOk P w K mg base CX0 5 _ _ _ _ := ok_law_char T
  refine T.F__law_gap.ok sc_law_gap (fun vs H Q E h => ?_) (fun cdv A outer s H vs Q E hr h => ?_)
  · obtain ⟨_, _, _, _, _, rfl, _⟩ := h; rfl
  · obtain ⟨st, ca, ns, b, aa, rfl, S, hbl, hal, q⟩ := h
    have hz := sizeLine_eq
    have hb1 : (sl b).length ≤ sizeLine := by rw [sl_len]; omega
    have ha1 : (sl aa).length ≤ sizeLine := by rw [sl_len]; omega
    have e0 : ("" : Str) = sl [] := by decide +kernel
    have dE : ∀ t : List Nat, decide (V.str (sl t) = V.str "") = decide (t = []) := fun t => by
      rw [e0]
      by_cases h : t = []
      · rw [h, decide_eq_true rfl, decide_eq_true rfl]
      · rw [decide_eq_false h, decide_eq_false fun z => h (sl_inj (by injection z))]
    have h7 : [V.str ":=", .str "=>", .str "..", .str "/=", .str "<=", .str ">=", .str "--"] = signs7.map fun r => V.str (sl r) := by
      have e : (([":=", "=>", "..", "/=", "<=", ">=", "--"] : List String).map Str.ofString) = signs7.map sl := by decide +kernel
      have e2 : signs7.map (fun r => V.str (sl r)) = (signs7.map sl).map V.str := by rw [List.map_map]; rfl
      rw [e2, ← e]
      rfl
    refine ⟨_, (pss_cons (ps_set (i := 3) sc_law_gap.nd rfl (Or.inl rfl) pe_str)
      (pss_cons (ps_set (i := 4) sc_law_gap.nd rfl (Or.inl rfl) (pe_call G_law_draw (hr.mono (by decide)) rfl T.g__law_draw T.k__law_draw T.bd__law_draw .nil pass0 (pa_cons (pv 0) (pa_cons pe_int pa_nil))))
      (C8.pss_cut (ps_if (PW.pt (pw_or (pt_cmpR op_eq (pv 1) pe_str (nomark _)) (pw_or1 (pt_cmpR op_eq (pv 2) pe_str (nomark _))))) (pss_one (ps_set (i := 5) sc_law_gap.nd rfl (Or.inl rfl) pe_bl)) (pss_cons (ps_set (i := 5) sc_law_gap.nd rfl (Or.inl rfl) (pe_not (pe_and (pe_cmpR op_in_sign (pe_ix ix_str (pv 1) (pe_un un_neg pe_int) (fun _ _ => rfl)) (pv 3) rfl) (pe_one (pe_cmpR op_in_sign (pe_ix ix_str (pv 2) pe_int (fun _ _ => rfl)) (pv 3) rfl)))))
      (pss_one (ps_if (pt_cmpR op_inS (pe_op op_add_str (pv 1) (pe_ix ix_str (pv 2) pe_int (fun _ _ => rfl))) (pe_lst (pa_cons pe_str (pa_cons pe_str (pa_cons pe_str (pa_cons pe_str (pa_cons pe_str (pa_cons pe_str (pa_cons pe_str pa_nil)))))))) rfl) (pss_one (ps_set (i := 5) sc_law_gap.nd rfl (Or.inl rfl) pe_bl)) pss_nil))))
      (C8.pss_cut (ps_if (PW.pt (pw_and (pt_cmpR op_lt (pv 4) pe_int (nomark _)) (pw_and1 (pt_val (pv 5))))) (pss_one (ps_ret pe_str)) pss_nil)
      (pss_cons (ps_if (pt_cmpR op_eq (pv 4) pe_int (nomark _)) (pss_one (ps_ret pe_str)) pss_nil)
      (pss_cons (ps_if (pt_cmpR op_eq (pv 4) pe_int (nomark _)) (pss_one (ps_ret (pe_op op_repX pe_str (pe_op op_add pe_int (pe_call G_law_draw (hr.mono (by decide)) rfl T.g__law_draw T.k__law_draw T.bd__law_draw .nil pass0 (pa_cons (pv 0) (pa_cons pe_int pa_nil))))))) pss_nil)
      (pss_cons (ps_if (pt_cmpR op_eq (pv 4) pe_int (nomark _)) (pss_cons (ps_set (i := 6) sc_law_gap.nd rfl (Or.inl rfl) (pe_op op_add_str (pe_op op_add_str pe_str (pe_join pe_str (pe_lc (own := [("k", 7)]) (g := gName 7) rfl sc_law_gap.nd (pi_range1 rfl T.b_range (pa_cons (pe_call G_law_draw (hr.mono (by decide)) rfl T.g__law_draw T.k__law_draw T.bd__law_draw .nil pass0 (pa_cons (pv 0) (pa_cons pe_int pa_nil))) pa_nil)) (blkOk_by (own := [("k", 7)]) (N := ["state", "before", "after", "chars", "choice", "joins", "comment", "k"]) (sc := defScope s_law_gap) (by decide +kernel)) (fun _ _ _ _ _ => pg_name (i := 7) sc_law_gap.nd rfl (Or.inl rfl)) (fun _ _ _ _ _ => pts_nil) (fun _ _ _ _ _ => (pe_call G_law_char (hr.mono (by decide)) rfl T.g__law_char T.k__law_char T.bd__law_char .nil pass0 (pa_cons (pv 0) pa_nil)))))) pe_str))
      (pss_cons (ps_if (PW.pt (pw_or (pt_cmpR op_eq (pe_slice sl_str (pv 1) (po_some (pe_un un_neg pe_int)) po_none) pe_str (nomark _)) (pw_or1 (pt_cmpR op_eq (pe_call G_law_draw (hr.mono (by decide)) rfl T.g__law_draw T.k__law_draw T.bd__law_draw .nil pass0 (pa_cons (pv 0) (pa_cons pe_int pa_nil))) pe_int (nomark _))))) (pss_one (ps_set (i := 6) sc_law_gap.nd rfl (Or.inl rfl) (pe_op op_add_str pe_str (pv 6)))) pss_nil)
      (pss_one (ps_ret (pv 6))))) pss_nil)
      (pss_one (ps_ret pe_str))))))))), ?_⟩
    refine ⟨_, rfl, st, ca, ns, 10, rfl, S, by decide, by decide, fun c H1 c0 c1 S1 f1 => ?_⟩
    refine ⟨fun σ H' => ∃ j : Bool, (j = true → Joins b aa) ∧ σ = [some (.ref st), some (.str (sl b)), some (.str (sl aa)), some (.str "abcdefghijklmnopqrstuvwxyz0123456789_"), some (.int c), some (.bl j), none, none] ∧ StD H' st ca ns ∧ Frs st H H', ?_, ?_⟩
    · refine ⟨_, rfl, rfl, _, rfl, ite3 (fun d1 => ?_) (fun d1 => ?_)⟩
      · rw [dE] at d1
        exact ⟨true, fun _ => .inl (of_decide_eq_true d1), rfl, S1, f1⟩
      refine ⟨_, rfl, rfl, _, rfl, ite3 (fun d2 => ?_) (fun d2 => ?_)⟩
      · rw [dE] at d2
        exact ⟨true, fun _ => .inr (.inl (of_decide_eq_true d2)), rfl, S1, f1⟩
      rw [dE] at d1 d2
      obtain ⟨bs, y, rfl⟩ : ∃ bs y, b = bs ++ [y] := ⟨b.dropLast, b.getLast (of_decide_eq_false d1), (List.dropLast_concat_getLast _).symm⟩
      obtain ⟨x, r, rfl⟩ : ∃ x r, aa = x :: r := by
        cases aa with
        | nil => exact absurd rfl (of_decide_eq_false d2)
        | cons x r => exact ⟨x, r, rfl⟩
      have hax : atI (sl (x :: r)).cps.toList 0 = some x := by rw [sl_list]; exact atI_nat (j := 0) rfl
      -- the second test
      have second : ∀ j : Bool, (j = true → ¬ (lastN (bs ++ [y]) ∧ isIn zN x = true)) → inV (.str (sl (bs ++ [y]) ++ sl [x])) [V.str ":=", .str "=>", .str "..", .str "/=", .str "<=", .str ">=", .str "--"] = false → j = true → Joins (bs ++ [y]) (x :: r) := fun j hj hi hj2 => by
        rw [h7, sl_app, inV_sl] at hi
        have hm := of_decide_eq_false hi
        refine .inr (.inr ⟨x, r, rfl, hj hj2, fun z => hm (List.mem_append_left _ z), fun z => hm ?_⟩)
        rw [z]; exact List.mem_append_right _ (List.mem_singleton.mpr rfl)
      have lastIs : ∀ {b : Bool}, (lastN (bs ++ [y]) → isIn zN y = true) := fun ⟨c, hc, hN⟩ => by
        rw [List.getLast?_append] at hc
        obtain rfl : y = c := by simpa using hc
        exact hN
      refine ⟨_, rfl, 1, rfl, _, _, y, rfl, rfl, hb1, (by rw [sl_list]; exact last_at), _, rfl, _, _, rfl, rfl, _, rfl, ite3 (fun d3 => ?_) (fun d3 => ?_)⟩
      · refine ⟨_, rfl, _, _, x, rfl, rfl, ha1, hax, _, rfl, _, _, rfl, rfl, _, rfl, ?_⟩
        refine ⟨_, rfl, _, rfl, _, _, x, rfl, rfl, ha1, hax, _, _, rfl, rfl, by rw [sl_len]; show _ + 1 ≤ sizeLine; omega, by decide, fun p np => ⟨p, _, rfl, .inl (SqL.of upd_same), rfl, by decide +kernel, _, rfl, ?_⟩⟩
        refine ite3 (fun d4 => ?_) (fun d4 => ?_)
        · exact ⟨false, (fun z => nomatch z), rfl, S1.new np, f1.tr (frs_new np)⟩
        · exact ⟨_, second (!decide (x ∈ zN.cps.toList)) (fun hj z => by
            have : isIn zN x = false := by unfold isIn; simpa using hj
            rw [this] at z; exact absurd z.2 (by decide)) d4, rfl, S1.new np, f1.tr (frs_new np)⟩
      · refine ⟨_, rfl, _, rfl, _, rfl, _, _, x, rfl, rfl, ha1, hax, _, _, rfl, rfl, by rw [sl_len]; show _ + 1 ≤ sizeLine; omega, by decide, fun p np => ⟨p, _, rfl, .inl (SqL.of upd_same), rfl, by decide +kernel, _, rfl, ?_⟩⟩
        refine ite3 (fun d4 => ?_) (fun d4 => ?_)
        · exact ⟨false, (fun z => nomatch z), rfl, S1.new np, f1.tr (frs_new np)⟩
        · exact ⟨_, second true (fun _ z => by
            have h1 := lastIs (b := true) z.1
            unfold isIn at h1
            rw [show decide (y ∈ zN.cps.toList) = false from d3] at h1
            cases h1) d4, rfl, S1.new np, f1.tr (frs_new np)⟩
    clear S1 f1
    rintro σ H1 ⟨j, hj, rfl, S1, f1⟩
    have gSp : GapB b [32] := ⟨.sp, .inr ⟨32, [], rfl, .inl rfl⟩⟩
    have eSp : (" " : Str) = sl [32] := by decide +kernel
    have eNl : ("\n" : Str) = sl [10] := by decide +kernel
    have fin : ∀ g, GapB b g → g ≠ [] → g.length ≤ 10 → ∀ H', StD H' st ca ns → Frs st H1 H' → Q (.str (sl g)) H' := fun g hg hne hl H' S' f' => q g H' hg (fun z => absurd z hne) hl S' (f1.tr f')
    refine ⟨fun σ H' => σ = [some (.ref st), some (.str (sl b)), some (.str (sl aa)), some (.str "abcdefghijklmnopqrstuvwxyz0123456789_"), some (.int c), some (.bl j), none, none] ∧ H' = H1, ?_, ?_⟩
    · refine ⟨_, rfl, _, _, rfl, rfl, _, rfl, ite3 (fun d1 => ?_) (fun d1 => ⟨rfl, rfl⟩)⟩
      refine ⟨_, rfl, _, rfl, ite3 (fun d2 => ?_) (fun d2 => ⟨rfl, rfl⟩)⟩
      have := q [] H1 ⟨.nil, .inl rfl⟩ (fun _ => hj d2) (by simp) S1 f1
      rw [← e0] at this
      exact this
    rintro σ H' ⟨rfl, rfl⟩
    refine ⟨_, rfl, rfl, _, rfl, ite3 (fun d1 => ?_) (fun d1 => ?_)⟩
    · have := fin [10] ⟨.nl, .inr ⟨10, [], rfl, .inr (.inl rfl)⟩⟩ (by simp) (by simp) H' S1 Frs.refl
      rw [← eNl] at this
      exact this
    refine ⟨_, rfl, rfl, _, rfl, ite3 (fun d2 => ?_) (fun d2 => ?_)⟩
    · refine ⟨_, rfl, st, ca, ns, 4, rfl, S1, by decide, by decide, fun v H2 v0 v1 S2 f2 => ⟨_, _, rfl, rfl, 32, 1 + v, rfl, rfl, by omega, by omega, ?_⟩⟩
      obtain ⟨n, hn⟩ : ∃ n, (1 + v).toNat = n + 1 := ⟨v.toNat, by omega⟩
      rw [hn]
      exact fin _ ⟨.sps _, .inr ⟨32, _, List.replicate_succ, .inl rfl⟩⟩ (by simp) (by rw [List.length_replicate]; omega) H2 S2 f2
    refine ⟨_, rfl, rfl, _, rfl, ite3 (fun d3 => ?_) (fun d3 => ?_)⟩
    · refine ⟨⟨_, rfl⟩, _, rfl, st, ca, ns, 7, rfl, S1, by decide, by decide, fun v H2 v0 v1 S2 f2 => ⟨_, rfl, by omega, by omega, fun D nD => ?_⟩⟩
      have n1 := S2.ne nD
      have n2 := S2.neC nD
      have nD0 := frs_free f2 nD n1
      refine lc_range (lo := 0) (n := v.toNat) (Ones D st ca ns H') (ones_start S2 f2 nD) ?_ ?_
      · rintro i H3 hi ⟨cs, hl, h10, hD, S3, f3⟩
        refine ⟨rfl, ?_⟩
        exact ⟨_, rfl, st, ca, ns, rfl, S3, fun x H4 hx S4 f4 => ones_more (by omega) ⟨cs, hl, h10, hD, S3, f3⟩ nD0 n1 n2 S4 f4 x hx⟩
      · rintro H3 ⟨cs, hl, h10, hD, S3, f3⟩
        have h00 : (Str.ofString "").length = 0 := rfl
        refine ⟨_, _, _, rfl, rfl, .inl (SqL.of hD), by rw [ones_sum, h00]; simp; omega, ?_⟩
        rw [join_sl]
        refine ⟨_, _, rfl, rfl, by rw [sl_len]; show 2 + cs.length ≤ sizeLine; omega, _, _, rfl, rfl, by rw [PySem.Str.length_append, sl_len]; show 2 + cs.length + 1 ≤ sizeLine; omega, ?_⟩
        have e1 : ("--" : Str) = sl [45, 45] := by decide +kernel
        rw [e1, eNl, sl_app, sl_app]
        have hg := GapOK.rem h10
        have hlen : ([45, 45] ++ cs ++ [10]).length ≤ 9 := by simp; omega
        generalize hgg : [45, 45] ++ cs ++ [10] = g at hg hlen
        have hst : g = 45 :: (45 :: cs ++ [10]) := by rw [← hgg]; rfl
        have ahead : ∀ H', StD H' st ca ns → Frs st H3 H' → Q (.str (sl ([32] ++ g))) H' := fun H' S' f' =>
          fin ([32] ++ g) ⟨GapOK.sp.app hg, .inr ⟨32, g, rfl, .inl rfl⟩⟩ (by simp) (by simp; omega) H' S' (f3.tr f')
        refine ⟨_, rfl, 1, rfl, _, rfl, _, rfl, hb1, rfl, _, rfl, ite3 (fun d4 => ?_) (fun d4 => ?_)⟩
        · refine ⟨_, rfl, _, _, rfl, rfl, by rw [eSp, sl_len, sl_len]; show 1 + _ ≤ sizeLine; omega, _, rfl, ?_⟩
          rw [eSp, sl_app]
          exact ahead H3 S3 Frs.refl
        · refine ⟨_, rfl, st, ca, ns, 2, rfl, S3, by decide, by decide, fun y H4 y0 y1 S4 f4 => ⟨rfl, _, rfl, ite3 (fun d5 => ?_) (fun d5 => ?_)⟩⟩
          · refine ⟨_, rfl, _, _, rfl, rfl, by rw [eSp, sl_len, sl_len]; show 1 + _ ≤ sizeLine; omega, _, rfl, ?_⟩
            rw [eSp, sl_app]
            exact ahead H4 S4 f4
          · have hb45 : b.getLast? ≠ some 45 := by
              by_cases h : b = []
              · rw [h]; simp
              · have e := (List.dropLast_concat_getLast h)
                have el : b.getLast? = some (b.getLast h) := List.getLast?_eq_some_getLast h
                generalize b.getLast h = y at e el
                have d4' := d4
                rw [← e, last1] at d4'
                rw [el]
                intro z
                obtain rfl : y = 45 := Option.some.inj z
                have : decide (V.str (sl [45]) = V.str "-") = true := by decide +kernel
                rw [this] at d4'
                cases d4'
            exact ⟨_, rfl, fin g ⟨hg, .inr ⟨45, _, hst, .inr (.inr ⟨rfl, hb45⟩)⟩⟩ (by rw [hst]; simp) (by omega) H4 S4 (f3.tr f4)⟩
    · have := fin [32] gSp (by simp) (by simp) H' S1 Frs.refl
      rw [← eSp] at this
      exact this
end

/-! ### the layout -/
abbrev Tk3 := V × V × List Nat
def mkT (gs : List Tk3) (ps : List (Nat × Nat)) : List Tk4 := (gs.zip ps).map fun x => (x.1.1, x.1.2.1, x.2.1, x.2.2)
theorem mkT_snoc {gs : List Tk3} {ps : List (Nat × Nat)} {i : Nat} (h : i < gs.length) (hp : ps.length = i) (p : Nat × Nat) : mkT (gs.take (i + 1)) (ps ++ [p]) = mkT (gs.take i) ps ++ [(gs[i].1, gs[i].2.1, p.1, p.2)] := by
  unfold mkT
  rw [List.take_succ_eq_append_getElem h, List.zip_append (by rw [List.length_take]; omega), List.map_append]
  rfl
inductive Plc (H : Hp) : List V → List (Nat × Nat) → Prop where
  | nil : Plc H [] []
  | cons {q : Addr} {l c : Nat} {vs : List V} {ps : List (Nat × Nat)} (h : H q = some (.tup [.int (l : Int), .int (c : Int)])) (r : Plc H vs ps) : Plc H (.ref q :: vs) ((l, c) :: ps)
theorem Plc.keep {H H' : Hp} (k : KTu H H') : ∀ {vs : List V} {ps : List (Nat × Nat)}, Plc H vs ps → Plc H' vs ps
  | _, _, .nil => .nil
  | _, _, .cons h r => .cons (k _ _ h) (r.keep k)
theorem Plc.snoc {H : Hp} {q : Addr} {l c : Nat} (h : H q = some (.tup [.int (l : Int), .int (c : Int)])) : ∀ {vs : List V} {ps : List (Nat × Nat)}, Plc H vs ps → Plc H (vs ++ [.ref q]) (ps ++ [(l, c)])
  | _, _, .nil => .cons h .nil
  | _, _, .cons h' r => .cons h' (r.snoc h)
theorem Plc.len {H : Hp} : ∀ {vs : List V} {ps : List (Nat × Nat)}, Plc H vs ps → vs.length = ps.length
  | _, _, .nil => rfl
  | _, _, .cons _ r => congrArg (· + 1) r.len
theorem Plc.unsnoc {H : Hp} {p : Nat × Nat} : ∀ {vs : List V} {ps : List (Nat × Nat)}, Plc H vs (ps ++ [p]) → ∃ ws q, vs = ws ++ [.ref q] ∧ Plc H ws ps
  | _, [], .cons h .nil => ⟨[], _, rfl, .nil⟩
  | _, _ :: ps, .cons h r => by
    obtain ⟨ws, q, e, r'⟩ := r.unsnoc
    exact ⟨_ :: ws, q, by rw [e]; rfl, .cons h r'⟩
theorem Plc.get {H : Hp} : ∀ {vs : List V} {ps : List (Nat × Nat)} {i : Nat} {p : Nat × Nat}, Plc H vs ps → ps[i]? = some p → ∃ q, vs[i]? = some (.ref q) ∧ H q = some (.tup [.int (p.1 : Int), .int (p.2 : Int)])
  | _, _, _, _, .nil, e => by simp at e
  | _, _, 0, _, .cons h _, e => by
    obtain rfl := Option.some.inj e
    exact ⟨_, rfl, h⟩
  | _, _, i + 1, p, .cons _ r, e => by
    obtain ⟨v, h1, h2⟩ := r.get (i := i) (p := p) (by simpa using e)
    exact ⟨v, by simpa using h1, h2⟩
def GoodAll (gs : List Tk3) : Prop := ∀ g ∈ gs, GoodTok g.1 g.2.1 g.2.2 ∧ g.2.2.length ≤ 30
def spLayout : Sp := fun vs H Q _ => ∃ (st ca : Addr) (ns : List Int) (pp : Addr) (gs : List Tk3), vs = [.ref st, .ref pp] ∧ StD H st ca ns ∧ H pp = some (.lst ((gs.map fun g => sl g.2.2).map V.str)) ∧ GoodAll gs ∧ gs.length ≤ 32 ∧
  ∀ (cs : List Nat) (ps : List (Nat × Nat)) (l c : Nat) (p qa : Addr) (xs : List V) (H' : Hp), cs.length ≤ 4000 → ps.length = gs.length → TxtR cs 1 1 (mkT gs ps) (true, l, c) → H' qa = some (.lst xs) → Plc H' xs (ps ++ [(l, c)]) → H' p = some (.tup [.str (sl cs), .ref qa]) → H p = none → H qa = none → StD H' st ca ns → Frs st H H' → Q (.ref p) H'
theorem sl_at (g : List Nat) (i : Nat) : (sl g).cps[i]? = g[i]? := by simp [sl]
theorem adv_step {g : List Nat} {i c : Nat} {p : Nat × Nat} (h : g[i]? = some c) : adv (g.take (i + 1)) p = if c = 10 then ((adv (g.take i) p).1 + 1, 1) else ((adv (g.take i) p).1, (adv (g.take i) p).2 + 1) := by
  obtain ⟨h1, h2⟩ := List.getElem?_eq_some_iff.mp h
  rw [List.take_succ_eq_append_getElem h1, adv_app, h2]
  rfl
theorem joins_sep {b a q : List Nat} (j : Joins b a) (ha : a ≠ []) : Sep b (a ++ q) := by
  rcases j with rfl | h | ⟨x, r, rfl, s⟩
  · intro c q' e
    refine ⟨fun z => ?_, fun z => ?_, fun z => ?_⟩
    · obtain ⟨⟨c, h, _⟩, _⟩ := z
      cases h
    · have : ∀ t ∈ longs, t.length = 2 := by decide
      have := this _ z
      simp at this
    · simp at z
  · exact absurd h ha
  · intro c q' e
    obtain ⟨rfl, _⟩ : x = c ∧ r ++ q = q' := by simpa using e
    exact s
theorem sep_sp (b q : List Nat) : Sep b (32 :: q) := gap_sep (g := [32]) ⟨.sp, .inr ⟨32, [], rfl, .inl rfl⟩⟩ (fun z => nomatch z)
section
variable {P : Program} {w : World} {K : PySem.W.Frag} {mg : Str → Option Value} {base : Heap} {a : Ad}
theorem ok_law_layout (T : Txt K mg a) : FnOk P w K mg base CX0 8 a.f_law_layout a.d_law_layout ["state", "pieces"] spLayout := by
  have G_law_draw : FnOk P w K mg base CX0 3 _ _ _ _ := ok_law_draw T
  have G_law_char : FnOk P w K mg base CX0 5 _ _ _ _ := ok_law_char T
  have G_law_gap : FnOk P w K mg base CX0 6 _ _ _ _ := ok_law_gap T
  refine T.F__law_layout.ok sc_law_layout (fun vs H Q E h => ?_) (fun cdv A outer s H vs Q E hr h => ?_)
  · obtain ⟨_, _, _, _, _, rfl, _⟩ := h; rfl
  · obtain ⟨st, ca, ns, pp, gs, rfl, S, hpp, hgs, hgl, q⟩ := h
    have hz := sizeLine_eq
    have e0 : ("" : Str) = sl [] := by decide +kernel
    have eNl : ("\n" : Str) = sl [10] := by decide +kernel
    obtain ⟨tx, htx⟩ : ∃ tx : List (List Nat), tx = gs.map fun g => g.2.2 := ⟨_, rfl⟩
    have htl : tx.length = gs.length := by rw [htx, List.length_map]
    have hpp' : H pp = some (.lst ((tx.map sl).map V.str)) := by rw [hpp, htx]; simp only [List.map_map]; rfl
    refine ⟨_, (pss_cons (ps_set (i := 2) sc_law_layout.nd rfl (Or.inl rfl) pe_str)
      (pss_cons (ps_set (i := 3) sc_law_layout.nd rfl (Or.inl rfl) pe_int)
      (pss_cons (ps_set (i := 4) sc_law_layout.nd rfl (Or.inl rfl) pe_int)
      (pss_cons (ps_set (i := 5) sc_law_layout.nd rfl (Or.inl rfl) (pe_lst pa_nil))
      (pss_cons (ps_set (i := 6) sc_law_layout.nd rfl (Or.inl rfl) pe_str)
      (pss_cons (ps_for PassesOwn.never rfl (pi_list (pe_op op_cat (pv 1) (pe_lst (pa_cons pe_str pa_nil)))) (pg_name (i := 7) sc_law_layout.nd rfl (Or.inl rfl)) (pss_cons (ps_set (i := 8) sc_law_layout.nd rfl (Or.inl rfl) (pe_call G_law_gap (hr.mono (by decide)) rfl T.g__law_gap T.k__law_gap T.bd__law_gap .nil pass0 (pa_cons (pv 0) (pa_cons (pv 6) (pa_cons (pv 7) pa_nil)))))
      (pss_cons (ps_for PassesOwn.never rfl (pi_str (pv 8)) (pg_name (i := 9) sc_law_layout.nd rfl (Or.inl rfl)) (pss_cons (ps_set (i := 4) sc_law_layout.nd rfl (Or.inl rfl) (pe_op op_add (pv 4) pe_int))
      (pss_one (ps_if (pt_cmpR op_eq (pv 9) pe_str (nomark _)) (pss_cons (ps_set (i := 3) sc_law_layout.nd rfl (Or.inl rfl) (pe_op op_add (pv 3) pe_int))
      (pss_one (ps_set (i := 4) sc_law_layout.nd rfl (Or.inl rfl) pe_int))) pss_nil))))
      (pss_cons (ps_expr (pe_bm PySem.F.plainAttrs_list PySem.F.slot_list_append PySem.F.type_list_append mt_append (pv 5) (pa_cons (pe_tup (pa_cons (pv 3) (pa_cons (pv 4) pa_nil))) pa_nil)))
      (pss_cons (ps_set (i := 2) sc_law_layout.nd rfl (Or.inl rfl) (pe_op op_add_str (pe_op op_add_str (pv 2) (pv 8)) (pv 7)))
      (pss_cons (ps_set (i := 4) sc_law_layout.nd rfl (Or.inl rfl) (pe_op op_add (pv 4) (pe_callB call_len_str (by rfl) T.b_len (by decide +kernel) (pa_cons (pv 7) pa_nil))))
      (pss_one (ps_set (i := 6) sc_law_layout.nd rfl (Or.inl rfl) (pv 7)))))))))
      (pss_cons (ps_if (pt_cmpR op_eq (pe_call G_law_draw (hr.mono (by decide)) rfl T.g__law_draw T.k__law_draw T.bd__law_draw .nil pass0 (pa_cons (pv 0) (pa_cons pe_int pa_nil))) pe_int (nomark _)) (pss_cons (ps_set (i := 10) sc_law_layout.nd rfl (Or.inl rfl) (pe_op op_add_str pe_str (pe_join pe_str (pe_lc (own := [("k", 11)]) (g := gName 11) rfl sc_law_layout.nd (pi_range1 rfl T.b_range (pa_cons (pe_call G_law_draw (hr.mono (by decide)) rfl T.g__law_draw T.k__law_draw T.bd__law_draw .nil pass0 (pa_cons (pv 0) (pa_cons pe_int pa_nil))) pa_nil)) (blkOk_by (own := [("k", 11)]) (N := ["state", "pieces", "text", "line", "column", "places", "before", "piece", "gap", "char", "tail", "k"]) (sc := defScope s_law_layout) (by decide +kernel)) (fun _ _ _ _ _ => pg_name (i := 11) sc_law_layout.nd rfl (Or.inl rfl)) (fun _ _ _ _ _ => pts_nil) (fun _ _ _ _ _ => (pe_call G_law_char (hr.mono (by decide)) rfl T.g__law_char T.k__law_char T.bd__law_char .nil pass0 (pa_cons (pv 0) pa_nil)))))))
      (pss_cons (ps_set (i := 2) sc_law_layout.nd rfl (Or.inl rfl) (pe_op op_add_str (pv 2) (pv 10)))
      (pss_one (ps_asg (pe_tup (pa_cons (pv 3) (pa_cons (pe_op op_add (pv 4) (pe_callB call_len_str (by rfl) T.b_len (by decide +kernel) (pa_cons (pv 10) pa_nil))) pa_nil))) (pg_sub (pv 5) (pe_un un_neg pe_int) set_list))))) pss_nil)
      (pss_one (ps_ret (pe_tup (pa_cons (pv 2) (pa_cons (pv 5) pa_nil)))))))))))), ?_⟩
    refine ⟨by decide, fun qa nqa => ?_⟩
    have hpp1 : upd H qa (.lst []) pp = some (.lst ((tx.map sl).map V.str)) := by rw [upd_ne (ne_of_none hpp' nqa)]; exact hpp'
    have qst := S.ne nqa
    have qca := S.neC nqa
    refine ⟨_, rfl, by decide, fun ea nea => ⟨pp, ea, _, _, rfl, rfl, by rw [upd_ne (ne_of_none hpp1 nea)]; exact hpp1, upd_same, by simp; omega, fun D nD => ?_⟩⟩
    have eys : (tx.map sl).map V.str ++ [V.str ""] = ((tx ++ [[]]).map sl).map V.str := by
      rw [List.map_append, List.map_append, e0]; rfl
    rw [eys]
    have S1 := (S.new (o := .lst []) nqa).new (o := .lst [V.str ""]) nea
    have hq1 : upd (upd H qa (.lst [])) ea (.lst [V.str ""]) qa = some (.lst []) := by rw [upd_ne (ne_of_none upd_same nea)]; exact upd_same
    have Dst := S1.ne nD
    have Dca := S1.neC nD
    have Dqa : D ≠ qa := (ne_of_none hq1 nD).symm
    have nD0 : H D = none := by
      have h1 : upd (upd H qa (.lst [])) ea (.lst [V.str ""]) D = none := nD
      rw [upd_ne (fun e => by rw [e, upd_same] at h1; cases h1), upd_ne Dqa] at h1
      exact h1
    have F1 : Frs st H (upd (upd (upd H qa (.lst [])) ea (.lst [V.str ""])) D (.lst (((tx ++ [[]]).map sl).map V.str))) := ((frs_new nqa).tr (frs_new nea)).tr (frs_new nD)
    refine ⟨_, rfl, ⟨_, SqL.of upd_same⟩, for_list (K := K) (a := D) (xs := ((tx ++ [[]]).map sl).map V.str) (fun i σ H' => ∃ (T0 : List Nat) (l c : Nat) (xs : List V) (ps : List (Nat × Nat)) (b bv : List Nat) (o1 o2 o3 : Option V),
      σ = [some (.ref st), some (.ref pp), some (.str (sl T0)), some (.int (l : Int)), some (.int (c : Int)), some (.ref qa), some (.str (sl bv)), o1, o2, o3, none, none] ∧ H' qa = some (.lst xs) ∧ Plc H' xs ps ∧ ps.length = i ∧ T0.length ≤ i * 40 ∧ b.length ≤ 30 ∧
      H' D = some (.lst (((tx ++ [[]]).map sl).map V.str)) ∧ StD H' st ca ns ∧ Frs st H H' ∧
      ((i ≤ gs.length ∧ bv = b ∧ ∀ q' ts e, Sep b q' → TxtR q' l c ts e → TxtR (T0 ++ q') 1 1 (mkT (gs.take i) ps ++ ts) e) ∨
       (i = gs.length + 1 ∧ ∃ ps0, ps = ps0 ++ [(l, c)] ∧ ps0.length = gs.length ∧ ∀ q' ts e, Sep b q' → TxtR q' l c ts e → TxtR (T0 ++ q') 1 1 (mkT gs ps0 ++ ts) e)))
      ⟨[], 1, 1, [], [], [], [], none, none, none, rfl, ?_, .nil, rfl, by simp, by simp, upd_same, S1.new nD, F1, .inl ⟨Nat.zero_le _, rfl, fun q' ts e _ h => h⟩⟩ (fun i σ H' _ h => ?_) ?_ ?_⟩
    · rw [upd_ne (ne_of_none hq1 nD)]; exact hq1
    · obtain ⟨_, _, _, _, _, _, _, _, _, _, _, _, _, _, _, _, hD, _⟩ := h
      exact SqL.of hD
    · rintro i x σ H' hi ⟨T0, l, c, xs, ps, b, bv, o1, o2, o3, rfl, hq, pl, hpl, hT, hbl, hD, S2, F2, alt⟩
      have hil : i < (tx ++ [[]]).length := by
        have := (List.getElem?_eq_some_iff.mp hi).1
        simpa using this
      have hil' : i < gs.length + 1 := by rw [List.length_append, htl] at hil; exact hil
      obtain ⟨hi1, rfl, fw⟩ : i ≤ gs.length ∧ bv = b ∧ _ := by
        rcases alt with h | ⟨h, _⟩
        · exact h
        · omega
      obtain ⟨t, ht⟩ : ∃ t, (tx ++ [[]])[i]? = some t := ⟨_, List.getElem?_eq_getElem hil⟩
      obtain rfl : x = .str (sl t) := by
        rw [List.getElem?_map, List.getElem?_map, ht] at hi
        exact (Option.some.inj hi).symm
      have tcase : (i < gs.length ∧ ∃ h : i < gs.length, t = gs[i].2.2 ∧ GoodTok gs[i].1 gs[i].2.1 t ∧ t.length ≤ 30) ∨ (i = gs.length ∧ t = []) := by
        by_cases h : i < gs.length
        · refine .inl ⟨h, h, ?_⟩
          rw [List.getElem?_append_left (by omega), htx, List.getElem?_map, List.getElem?_eq_getElem h] at ht
          obtain rfl := Option.some.inj ht
          exact ⟨rfl, hgs _ (List.getElem_mem h)⟩
        · refine .inr ⟨by omega, ?_⟩
          rw [List.getElem?_append_right (by omega), show i - tx.length = 0 by omega] at ht
          exact (Option.some.inj ht).symm
      have htl30 : t.length ≤ 30 := by
        rcases tcase with ⟨_, _, _, _, h⟩ | ⟨_, rfl⟩
        · exact h
        · simp
      refine ⟨_, rfl, _, rfl, _, rfl, st, ca, ns, bv, t, rfl, S2, by omega, by omega, fun g H3 hg hj hgl3 S3 f3 => ?_⟩
      have hq3 := f3 qa _ hq qst
      have hD3 := f3 D _ hD Dst
      have F3 := F2.tr f3
      have pl3 : Plc H3 xs ps := pl.keep fun b ys hb => f3 b _ hb fun e => by
        obtain ⟨_, _, _, _, _, _, h⟩ := S2.at'
        rw [e, h] at hb; cases hb
      refine ⟨_, rfl, _, rfl, for_txt (x := sl g) (fun j σ H' => H' = H3 ∧ ∃ o, σ = [some (.ref st), some (.ref pp), some (.str (sl T0)), some (.int ((adv (g.take j) (l, c)).1 : Int)), some (.int ((adv (g.take j) (l, c)).2 : Int)), some (.ref qa), some (.str (sl bv)), some (.str (sl t)), some (.str (sl g)), o, none, none]) ⟨rfl, _, rfl⟩ ?_ ?_⟩
      · rintro j ch σ H' hch ⟨rfl, o, rfl⟩
        rw [sl_at] at hch
        have hadv := adv_step (p := (l, c)) hch
        refine ⟨_, rfl, _, _, rfl, rfl, _, rfl, rfl, _, rfl, ite3 (fun d => ?_) (fun d => ?_)⟩
        · rw [chr_eq ch 10 _ eNl] at d
          rw [if_pos (of_decide_eq_true d)] at hadv
          refine ⟨_, rfl, _, _, rfl, rfl, rfl, some (.str ⟨#[ch]⟩), ?_⟩
          rw [hadv]
          rfl
        · rw [chr_eq ch 10 _ eNl] at d
          rw [if_neg (of_decide_eq_false d)] at hadv
          refine ⟨rfl, some (.str ⟨#[ch]⟩), ?_⟩
          rw [hadv]
          rfl
      · rintro σ H' ⟨rfl, o, rfl⟩
        rw [show g.take (sl g).cps.size = g by rw [List.take_of_length_le]; simp [sl]]
        generalize hadv : adv g (l, c) = p1
        rcases p1 with ⟨l1, c1⟩
        refine ⟨_, rfl, .inl ⟨rfl, _, SqL.of hq3⟩, _, rfl, _, rfl, (by show 2 ≤ sizeLine; decide), fun u nu => ⟨qa, xs, _, rfl, rfl, by rw [upd_ne (ne_of_none hq3 nu)]; exact hq3, by rw [pl.len]; omega, ?_⟩⟩
        have hgl' : (sl g).length ≤ 10 := by rw [sl_len]; exact hgl3
        have hul : u ≠ qa := (ne_of_none hq3 nu).symm
        refine ⟨_, rfl, _, rfl, _, _, rfl, rfl, by rw [sl_len, sl_len]; omega, _, rfl, _, _, rfl, rfl, by rw [PySem.Str.length_append, sl_len, sl_len, sl_len]; omega, _, rfl, _, rfl, _, rfl, by rw [sl_len]; omega, _, _, rfl, rfl, _, rfl, ?_⟩
        have hq5 : upd (upd H' u (.tup [.int (l1 : Int), .int (c1 : Int)])) qa (.lst (xs ++ [.ref u])) qa = some (.lst (xs ++ [.ref u])) := upd_same
        have pl5 : Plc (upd (upd H' u (.tup [.int (l1 : Int), .int (c1 : Int)])) qa (.lst (xs ++ [.ref u]))) (xs ++ [.ref u]) (ps ++ [(l1, c1)]) := by
          refine Plc.snoc (by rw [upd_ne hul]; exact upd_same) (pl3.keep fun b ys hb => ?_)
          rw [upd_ne (fun e => by rw [e, hq3] at hb; cases hb), upd_ne (ne_of_none hb nu)]
          exact hb
        have hD5 : upd (upd H' u (.tup [.int (l1 : Int), .int (c1 : Int)])) qa (.lst (xs ++ [.ref u])) D = some (.lst (((tx ++ [[]]).map sl).map V.str)) := by
          rw [upd_ne Dqa, upd_ne (ne_of_none hD3 nu)]; exact hD3
        have S5 : StD (upd (upd H' u (.tup [.int (l1 : Int), .int (c1 : Int)])) qa (.lst (xs ++ [.ref u]))) st ca ns := (S3.new nu).upd qst qca
        have F5 : Frs st H (upd (upd H' u (.tup [.int (l1 : Int), .int (c1 : Int)])) qa (.lst (xs ++ [.ref u]))) := fun b o e nb => by
          rw [upd_ne (ne_of_none e nqa), upd_ne (ne_of_none (F3 b o e nb) nu)]
          exact F3 b o e nb
        rcases tcase with ⟨hin, _, ht1, ht2, ht3⟩ | ⟨hin, ht1⟩
        · refine ⟨T0 ++ g ++ t, l1, c1 + t.length, xs ++ [.ref u], ps ++ [(l1, c1)], t, t, some (.str (sl t)), some (.str (sl g)), o, by rw [sl_app, sl_app]; rfl, hq5, pl5, by rw [List.length_append, hpl]; rfl, by simp; omega, ht3, hD5, S5, F5, (.inl ⟨by omega, rfl, fun q' ts e s h => ?_⟩)⟩
          have hne : t ≠ [] := by
            obtain ⟨x, r, e, _⟩ := good_tok ht2 s
            rw [e]; simp
          rw [mkT_snoc hin hpl, List.append_assoc, List.append_assoc, List.append_assoc]
          refine fw (g ++ (t ++ q')) _ e (gap_sep hg fun z => joins_sep (hj z) hne) (hg.ok (l, c) _ _ _ ?_)
          rw [hadv]
          exact txt_tok ht2 s h
        · subst ht1
          refine ⟨T0 ++ g ++ [], l1, c1 + 0, xs ++ [.ref u], ps ++ [(l1, c1)], bv, [], some (.str (sl [])), some (.str (sl g)), o, by rw [sl_app, sl_app]; rfl, hq5, pl5, by rw [List.length_append, hpl]; rfl, by simp; omega, hbl, hD5, S5, F5, (.inr ⟨by omega, ps, rfl, by omega, fun q' ts e s h => ?_⟩)⟩
          rw [List.append_nil, List.append_assoc]
          have h2 := fw (g ++ q') ts e (gap_sep hg fun _ => s) (hg.ok (l, c) _ _ _ (by rw [hadv]; exact h))
          rw [hin, List.take_length] at h2
          exact h2
    · rintro σ H' ⟨T0, l, c, xs, ps, b, bv, o1, o2, o3, rfl, hq, pl, hpl, hT, hbl, hD, S2, F2, alt⟩
      have hyl : (((tx ++ [[]]).map sl).map V.str).length = gs.length + 1 := by simp [htl]
      rw [hyl] at hpl hT alt
      obtain ⟨ps0, rfl, hp0, fw⟩ : ∃ ps0, ps = ps0 ++ [(l, c)] ∧ ps0.length = gs.length ∧ ∀ q' ts e, Sep b q' → TxtR q' l c ts e → TxtR (T0 ++ q') 1 1 (mkT gs ps0 ++ ts) e := by
        rcases alt with ⟨h, _⟩ | ⟨_, h⟩
        · omega
        · exact h
      refine ⟨_, rfl, st, ca, ns, 5, rfl, S2, by decide, by decide, fun v H3 v0 v1 S3 f3 => ⟨rfl, _, rfl, ite3 (fun d => ?_) (fun d => ?_)⟩⟩
      · have h00 : (Str.ofString "").length = 0 := rfl
        have eT : (" --" : Str) = sl [32, 45, 45] := by decide +kernel
        refine ⟨⟨_, rfl⟩, _, rfl, st, ca, ns, 7, rfl, S3, by decide, by decide, fun v H4 v0 v1 S4 f4 => ⟨_, rfl, by omega, by omega, fun E nE => ?_⟩⟩
        have n1 := S4.ne nE
        have n2 := S4.neC nE
        have F4 := (F2.tr f3).tr f4
        have nE0 := frs_free (f3.tr f4) nE n1
        refine lc_range (lo := 0) (n := v.toNat) (Ones E st ca ns H') (ones_start S4 (f3.tr f4) nE) ?_ ?_
        · rintro i H5 hi ⟨cs, hl, h10, hD, S5, f5⟩
          refine ⟨rfl, ?_⟩
          exact ⟨_, rfl, st, ca, ns, rfl, S5, fun x H6 hx S6 f6 => ones_more (by omega) ⟨cs, hl, h10, hD, S5, f5⟩ nE0 n1 n2 S6 f6 x hx⟩
        · rintro H5 ⟨cs, hl, h10, hE, S5, f5⟩
          refine ⟨_, _, _, rfl, rfl, .inl (SqL.of hE), by rw [ones_sum, h00]; simp; omega, ?_⟩
          rw [join_sl]
          refine ⟨_, _, rfl, rfl, by rw [sl_len]; show 3 + cs.length ≤ sizeLine; omega, ?_⟩
          rw [eT, sl_app]
          have hlen : ([32, 45, 45] ++ cs).length = 3 + cs.length := by simp; omega
          have hcs : cs.length ≤ 6 := by omega
          have h := fw ([32, 45, 45] ++ cs) [] (true, l, c + (3 + cs.length)) (sep_sp b _) (by
            refine .spc (.rem (by simp) ?_)
            have h2 : 10 ∉ [45, 45] ++ cs := fun z => by
              rcases List.mem_append.mp z with z | z
              · simp at z
              · exact h10 z
            obtain ⟨e1, e2⟩ := dw_cut (q := []) (.inl rfl) ([45, 45] ++ cs) h2
            rw [List.append_nil] at e1 e2
            show TxtR (([45, 45] ++ cs).dropWhile (· != 10)) l (c + 1 + (([45, 45] ++ cs).takeWhile (· != 10)).length) [] _
            rw [e1, e2, show c + 1 + (([45, 45] : List Nat) ++ cs).length = c + (3 + cs.length) by simp; omega]
            exact .nil)
          rw [List.append_nil] at h
          generalize [32, 45, 45] ++ cs = tl at h hlen
          have hq5 := f5 qa _ hq qst
          have pl5 : Plc H5 xs (ps0 ++ [(l, c)]) := pl.keep fun b ys hb => f5 b _ hb fun e => by
            obtain ⟨_, _, _, _, _, _, h⟩ := S2.at'
            rw [e, h] at hb; cases hb
          obtain ⟨ws, q0, rfl, plw⟩ := pl5.unsnoc
          refine ⟨_, rfl, _, rfl, _, _, rfl, rfl, by rw [sl_len, sl_len]; omega, ?_⟩
          refine ⟨_, rfl, _, rfl, _, rfl, _, rfl, by rw [sl_len]; omega, _, _, rfl, rfl, (by show 2 ≤ sizeLine; decide), fun u nu => ?_⟩
          have hq6 : upd H5 u (.tup [.int (l : Int), .int ((c : Int) + ((sl tl).length : Int))]) qa = some (.lst (ws ++ [.ref q0])) := by rw [upd_ne (ne_of_none hq5 nu)]; exact hq5
          have hix : ixN (ws ++ [V.ref q0]).length (-1) = some ws.length := by
            unfold ixN
            simp
            omega
          refine ⟨_, rfl, 1, rfl, qa, _, -1, ws.length, rfl, rfl, hq6, hix, ?_⟩
          have hul : u ≠ qa := (ne_of_none hq5 nu).symm
          have hset : (ws ++ [V.ref q0]).set ws.length (.ref u) = ws ++ [.ref u] := by simp
          rw [hset]
          refine ⟨_, rfl, _, rfl, (by show 2 ≤ sizeLine; decide), fun p np => ?_⟩
          have hcol : (c : Int) + ((sl tl).length : Int) = ((c + (3 + cs.length) : Nat) : Int) := by rw [sl_len, hlen]; omega
          have F5 := F2.tr f5
          have np5 : H5 p = none := by
            have h1 := np
            rw [upd_ne (fun e => by rw [e, upd_same] at h1; cases h1)] at h1
            rw [upd_ne (fun e => by rw [e, upd_same] at h1; cases h1)] at h1
            exact h1
          refine q (T0 ++ tl) ps0 l (c + (3 + cs.length)) p qa (ws ++ [.ref u]) _ (by rw [List.length_append]; omega) hp0 h ?_ ?_ ?_ (frs_free F5 np5 (StD.ne S5 np5)) nqa (((S5.new nu).upd qst qca).new np) ?_
          · rw [upd_ne (ne_of_none upd_same np), upd_same]
          · refine Plc.snoc ?_ (plw.keep fun b ys hb => ?_)
            · rw [upd_ne (fun e => by rw [← e, upd_ne hul, upd_same] at np; cases np), upd_ne hul, upd_same]
              show some (HO.tup [V.int (l : Int), V.int ((c : Int) + ((sl tl).length : Int))]) = _
              rw [hcol]
            · rw [upd_ne (fun e => by rw [e, np5] at hb; cases hb), upd_ne (fun e => by rw [e, hq5] at hb; cases hb), upd_ne (ne_of_none hb nu)]
              exact hb
          · rw [upd_same, sl_app]
          · intro b o e nb
            have e5 := F5 b o e nb
            rw [upd_ne (ne_of_none e5 np5), upd_ne (ne_of_none e nqa), upd_ne (ne_of_none e5 nu)]
            exact e5
      · have h := fw [] [] (true, l, c) (Sep.nil b) .nil
        rw [List.append_nil, List.append_nil] at h
        have hq3 := f3 qa _ hq qst
        have pl3 : Plc H3 xs (ps0 ++ [(l, c)]) := pl.keep fun b ys hb => f3 b _ hb fun e => by
          obtain ⟨_, _, _, _, _, _, h⟩ := S2.at'
          rw [e, h] at hb; cases hb
        refine ⟨_, rfl, _, rfl, (by show 2 ≤ sizeLine; decide), fun p np => ?_⟩
        exact q T0 ps0 l c p qa xs _ (by omega) hp0 h (by rw [upd_ne (ne_of_none hq3 np)]; exact hq3) (pl3.keep fun b ys hb => by rw [upd_ne (ne_of_none hb np)]; exact hb) upd_same (frs_free (F2.tr f3) np (StD.ne S3 np)) nqa (S3.new np) ((F2.tr f3).tr (frs_new np))
end

/-! ### items, in a block -/
theorem ix_tupK {X : Cx} {K : PySem.W.Frag} (h : X.K = K) : IxR X (rIxT K) := by
  subst h
  exact ix_tup
theorem ix_listK {X : Cx} {K : PySem.W.Frag} (h : X.K = K) : IxR X (rIxL K) := by
  subst h
  exact ix_list
theorem sl_tupK {X : Cx} {K : PySem.W.Frag} (h : X.K = K) : SlR X (rSlT K) := by
  subst h
  exact sl_tup
theorem op_catTK {X : Cx} {K : PySem.W.Frag} (h : X.K = K) : OpR X (binaryOp .Add) (rCatT K) := by
  subst h
  exact op_catT
/-! ### sameness of what was told and what is due -/
def okD : Nat → PyData → Prop
  | _, .int _ => True
  | _, .str _ => True
  | n + 1, .tuple ds => (∀ d ∈ ds, okD n d) ∧ ds.length ≤ 1000000
  | _, _ => False
def spSame (K : PySem.W.Frag) (n : Nat) : Sp := fun vs H Q _ => ∃ (x y : V) (d : PyData), vs = [x, y] ∧ Dp K H x d ∧ Dp K H y d ∧ okD n d ∧ ∀ H', Same H H' → Q (.bl true) H'
section
variable {P : Program} {w : World} {K : PySem.W.Frag} {mg : Str → Option Value} {base : Heap} {a : Ad}
theorem dpall_len {H : Hp} : ∀ {vs : List V} {ds : List PyData}, DpAll K H vs ds → vs.length = ds.length
  | _, _, .nil => rfl
  | _, _, .cons _ r => congrArg (· + 1) (dpall_len r)
theorem dpall_get {H : Hp} : ∀ {vs : List V} {ds : List PyData} {i : Nat} {d : PyData}, DpAll K H vs ds → ds[i]? = some d → ∃ v, vs[i]? = some v ∧ Dp K H v d
  | _, _, _, _, .nil, e => by simp at e
  | _, _, 0, _, .cons h _, e => by
    obtain rfl := Option.some.inj e
    exact ⟨_, rfl, h⟩
  | _, _, i + 1, d, .cons _ r, e => by
    obtain ⟨v, h1, h2⟩ := dpall_get (i := i) (d := d) r (by simpa using e)
    exact ⟨v, by simpa using h1, h2⟩
theorem dp_same {H H' : Hp} (s : Same H H') : ∀ {x : V} {d : PyData}, Dp K H x d → Dp K H' x d := by
  intro x d
  exact fun h => by
    revert s
    refine Dp.rec (K := K) (H := H) (motive_1 := fun x d _ => Same H H' → Dp K H' x d) (motive_2 := fun xs ds _ => Same H H' → DpAll K H' xs ds) ?_ ?_ ?_ ?_ ?_ ?_ ?_ ?_ h
    · exact fun _ => .non
    · exact fun b _ => .bl b
    · exact fun b _ => .int b
    · exact fun b _ => .str b
    · exact fun hs _ ih s => .lst (s.seq hs) (ih s)
    · exact fun hs _ ih s => .tup (seqT s hs) (ih s)
    · exact fun _ => .nil
    · exact fun _ _ i1 i2 s => .cons (i1 s) (i2 s)
theorem ok_same_aux (T : Txt K mg a) (n k : Nat) (sp' : Sp) (G_law_same : FnOk P w K mg base CX0 k a.f_law_same a.d_law_same ["actual", "due"] sp') (hG : ∀ m, n = m + 1 → ∀ vs H Q E, spSame K m vs H Q E → sp' vs H Q E) :
    FnOk P w K mg base CX0 (k + 1) a.f_law_same a.d_law_same ["actual", "due"] (spSame K n) := by
  refine T.F__law_same.ok sc_law_same (fun vs H Q E h => ?_) (fun cdv A outer s H vs Q E hr h => ?_)
  · obtain ⟨_, _, _, rfl, _⟩ := h; rfl
  · obtain ⟨x, y, d, rfl, hx, hy, ho, q⟩ := h
    refine ⟨_, (pss_cons (ps_if (pt_val (pe_callB call_isi (by rfl) T.b_isinstance (by decide +kernel) (pa_cons (pv 1) (pa_cons (pe_bltn (v := .ty "tuple") (by rfl) T.b_tuple (by decide +kernel) rfl) pa_nil)))) (pss_cons (ps_if (PW.pt (pw_or (pt_not (pt_val (pe_callB call_isi (by rfl) T.b_isinstance (by decide +kernel) (pa_cons (pv 0) (pa_cons (pe_bltn (v := .ty "tuple") (by rfl) T.b_tuple (by decide +kernel) rfl) pa_nil))))) (pw_or1 (pt_cmpR op_ne (pe_callB call_len_seq (by rfl) T.b_len (by decide +kernel) (pa_cons (pv 0) pa_nil)) (pe_callB call_len_seq (by rfl) T.b_len (by decide +kernel) (pa_cons (pv 1) pa_nil)) (nomark _))))) (pss_one (ps_ret pe_bl)) pss_nil)
      (pss_one (ps_ret (pe_callB (cr_all rfl) (by rfl) T.b_all (by decide +kernel) (pa_cons (pe_lc (own := [("k", 2)]) (g := gName 2) rfl sc_law_same.nd (pi_range1 rfl T.b_range (pa_cons (pe_callB call_len_seq (by rfl) T.b_len (by decide +kernel) (pa_cons (pv 1) pa_nil)) pa_nil)) (blkOk_by (own := [("k", 2)]) (N := ["actual", "due", "k"]) (sc := defScope s_law_same) (by decide +kernel)) (fun _ _ _ _ _ => pg_name (i := 2) sc_law_same.nd rfl (Or.inl rfl)) (fun _ _ _ _ _ => pts_nil) (fun _ _ _ _ _ => (pe_call G_law_same hr rfl T.g__law_same T.k__law_same T.bd__law_same .nil pass0 (pa_cons (pe_ix (ix_tupK (K := K) rfl) (pv 0) (pv 2) (fun _ _ => rfl)) (pa_cons (pe_ix (ix_tupK (K := K) rfl) (pv 1) (pv 2) (fun _ _ => rfl)) pa_nil))))) pa_nil))))) pss_nil)
      (pss_cons (ps_if (pt_cmpR op_isN (pv 1) pe_non (nomark _)) (pss_one (ps_ret (pe_cmpR op_isN (pv 0) pe_non (nomark _)))) pss_nil)
      (pss_cons (ps_if (pt_val (pe_callB call_isi (by rfl) T.b_isinstance (by decide +kernel) (pa_cons (pv 1) (pa_cons (pe_bltn (v := .ty "bool") (by rfl) T.b_bool (by decide +kernel) rfl) pa_nil)))) (pss_one (ps_ret (pe_and (pe_callB call_isi (by rfl) T.b_isinstance (by decide +kernel) (pa_cons (pv 0) (pa_cons (pe_bltn (v := .ty "bool") (by rfl) T.b_bool (by decide +kernel) rfl) pa_nil))) (pe_one (pe_cmpR op_eq (pv 0) (pv 1) (nomark _)))))) pss_nil)
      (pss_cons (ps_if (pt_val (pe_callB call_isi (by rfl) T.b_isinstance (by decide +kernel) (pa_cons (pv 1) (pa_cons (pe_bltn (v := .ty "str") (by rfl) T.b_str (by decide +kernel) rfl) pa_nil)))) (pss_one (ps_ret (pe_and (pe_callB call_isi (by rfl) T.b_isinstance (by decide +kernel) (pa_cons (pv 0) (pa_cons (pe_bltn (v := .ty "str") (by rfl) T.b_str (by decide +kernel) rfl) pa_nil))) (pe_one (pe_cmpR op_eq (pv 0) (pv 1) (nomark _)))))) pss_nil)
      (pss_one (ps_ret (pe_and (pe_callB call_isi (by rfl) T.b_isinstance (by decide +kernel) (pa_cons (pv 0) (pa_cons (pe_bltn (v := .ty "int") (by rfl) T.b_int (by decide +kernel) rfl) pa_nil))) (pe_and (pe_not (pe_callB call_isi (by rfl) T.b_isinstance (by decide +kernel) (pa_cons (pv 0) (pa_cons (pe_bltn (v := .ty "bool") (by rfl) T.b_bool (by decide +kernel) rfl) pa_nil)))) (pe_one (pe_cmpR op_eq (pv 0) (pv 1) (nomark _))))))))))), ?_⟩
    have s0 := Same.refl H
    cases d with
    | int i =>
      cases hx; cases hy
      refine ⟨_, rfl, _, _, _, _, _, rfl, .ty _, .base (.int _), kit_ty (by decide +kernel : kitB "int" "tuple" = some false), _, rfl, iteF ?_⟩
      refine ⟨_, rfl, rfl, _, rfl, ite3 (fun d => absurd d (by simp)) (fun _ => ?_)⟩
      refine ⟨_, rfl, _, _, _, _, _, rfl, .ty _, .base (.int _), kit_ty (by decide +kernel : kitB "int" "bool" = some false), _, rfl, iteF ?_⟩
      refine ⟨_, rfl, _, _, _, _, _, rfl, .ty _, .base (.int _), kit_ty (by decide +kernel : kitB "int" "str" = some false), _, rfl, iteF ?_⟩
      refine ⟨_, rfl, _, _, _, _, _, rfl, .ty _, .base (.int _), kit_ty (by decide +kernel : kitB "int" "int" = some true), _, rfl, iteT ?_⟩
      refine ⟨_, rfl, _, _, _, _, _, rfl, .ty _, .base (.int _), kit_ty (by decide +kernel : kitB "int" "bool" = some false), _, rfl, _, rfl, iteT ?_⟩
      refine ⟨_, rfl, _, rfl, rfl, ?_⟩
      rw [show decide (V.int i = V.int i) = true by simp]
      exact q _ s0
    | str z =>
      cases hx; cases hy
      refine ⟨_, rfl, _, _, _, _, _, rfl, .ty _, .base (.str _), kit_ty (by decide +kernel : kitB "str" "tuple" = some false), _, rfl, iteF ?_⟩
      refine ⟨_, rfl, rfl, _, rfl, ite3 (fun d => absurd d (by simp)) (fun _ => ?_)⟩
      refine ⟨_, rfl, _, _, _, _, _, rfl, .ty _, .base (.str _), kit_ty (by decide +kernel : kitB "str" "bool" = some false), _, rfl, iteF ?_⟩
      refine ⟨_, rfl, _, _, _, _, _, rfl, .ty _, .base (.str _), kit_ty (by decide +kernel : kitB "str" "str" = some true), _, rfl, iteT ?_⟩
      refine ⟨_, rfl, _, _, _, _, _, rfl, .ty _, .base (.str _), kit_ty (by decide +kernel : kitB "str" "str" = some true), _, rfl, iteT ?_⟩
      refine ⟨_, rfl, _, rfl, rfl, ?_⟩
      rw [show decide (V.str z = V.str z) = true by simp]
      exact q _ s0
    | tuple ds =>
      cases n with
      | zero => exact ho.elim
      | succ m =>
        obtain ⟨ho, hz⟩ := ho
        cases hx with
        | @tup pa xs _ hxs dx =>
          cases hy with
          | @tup pb ys _ hys dy =>
            have lx := dpall_len dx
            have ly := dpall_len dy
            refine ⟨_, rfl, _, _, _, _, _, rfl, .ty _, tyx_tup hys, kit_ty (by decide +kernel : kitB "tuple" "tuple" = some true), _, rfl, iteT ?_⟩
            refine ⟨_, rfl, _, _, _, _, _, rfl, .ty _, tyx_tup hxs, kit_ty (by decide +kernel : kitB "tuple" "tuple" = some true), _, rfl, iteF ?_⟩
            refine ⟨_, rfl, _, _, rfl, .inr hxs, _, rfl, _, _, rfl, .inr hys, rfl, _, rfl, ?_⟩
            rw [show (!decide (V.int (xs.length : Int) = V.int (ys.length : Int))) = false by rw [lx, ly]; simp]
            refine iteF ?_
            refine ⟨_, rfl, _, _, rfl, .inr hys, _, rfl, by omega, by omega, fun D nD => ?_⟩
            refine lc_range (lo := 0) (n := (ys.length : Int).toNat) (fun i H' => Same H H' ∧ H' D = some (.lst ((List.replicate i true).map V.bl))) ⟨sN s0 nD, upd_same⟩ ?_ ?_
            · rintro i H' hi ⟨ss, hD⟩
              have hi' : i < ds.length := by omega
              obtain ⟨v1, e1, d1⟩ := dpall_get (i := i) (d := ds[i]) dx (by simp [hi'])
              obtain ⟨v2, e2, d2⟩ := dpall_get (i := i) (d := ds[i]) dy (by simp [hi'])
              have e0 : (0 : Int) + (i : Int) = (i : Int) := Int.zero_add _
              rw [e0]
              refine ⟨rfl, ?_⟩
              refine ⟨_, rfl, _, rfl, _, _, _, _, rfl, rfl, seqT ss hxs, atI_nat e1, _, rfl, _, rfl, _, _, _, _, rfl, rfl, seqT ss hys, atI_nat e2, ?_⟩
              refine hG m rfl _ _ _ _ ⟨v1, v2, ds[i], rfl, dp_same ss d1, dp_same ss d2, ho _ (List.getElem_mem hi'), fun H2 s2 => ?_⟩
              refine ⟨_, s2 _ _ hD, (by have := sizeLine_eq; simp; omega), sUpd (Same.tr ss s2) nD, ?_⟩
              rw [upd_same, List.replicate_succ', List.map_append]
              rfl
            · rintro H' ⟨ss, hD⟩
              refine ⟨D, List.replicate _ true, rfl, SqL.of hD, ?_⟩
              have e : (List.replicate (ys.length : Int).toNat true).all id = true := by simp
              rw [e]
              exact q _ ss
    | none => exact (by cases n <;> exact ho.elim)
    | bool b => exact (by cases n <;> exact ho.elim)
    | list ds => exact (by cases n <;> exact ho.elim)
    | _ => exact (by cases n <;> exact ho.elim)
theorem ok_same (T : Txt K mg a) : ∀ n, FnOk P w K mg base CX0 (n + 1) a.f_law_same a.d_law_same ["actual", "due"] (spSame K n)
  | 0 => ok_same_aux T 0 0 spNever ⟨fun _ _ _ _ h => h.elim, fun _ _ _ _ _ _ _ _ _ _ _ _ _ h => h.elim⟩ fun _ h => nomatch h
  | n + 1 => ok_same_aux T (n + 1) (n + 1) (spSame K n) (ok_same T n) fun m h vs H Q E q => by
    obtain rfl : n = m := Nat.succ.inj h
    exact q
end

/-! ### the law -/
theorem FnOk.calm {P : Program} {w : World} {K : PySem.W.Frag} {mg : Str → Option Value} {base : Heap} {k : Nat} {f : Addr} {fd : FuncData} {ps : List Str} {sp : Sp} (F : FnOk P w K mg base (L2.CX P w) k f fd ps sp) : FnOk P w K mg base CX0 k f fd ps (fun vs H Q _ => sp vs H Q E0) :=
  ⟨fun vs H Q _ q => F.len vs H Q E0 q, fun A outer s H args us vs Q E hr he hb hv hs => codeAny_mono (F.run A outer s H args us vs Q E0 hr he hb hv hs) fun r s' h => by
    match r, h with
    | .ok (.ret u), h => exact h
    | .ok .next, h => exact h.elim
    | .ok .brk, h => exact h.elim
    | .ok .cont, h => exact h.elim
    | .error e, h =>
      obtain ⟨_, _, _, _, _, _, _, _, _, _, _, _, z⟩ := h
      exact z.elim⟩
def endT (l c : Nat) : Tk4 := (.str "end", .str "", l, c)
def spScanC : Sp := fun vs H Q _ => ∃ (cs : List Nat) (ts : List Tk4) (l c : Nat), vs = [.str (sl cs)] ∧ cs.length ≤ 4000 ∧ TxtR cs 1 1 ts (true, l, c) ∧ ∀ p xs H1, Same H H1 → H p = none → H1 p = some (.lst xs) → Toks H1 xs (ts ++ [endT l c]) → Q (.ref p) H1
def vD : V → PyData
  | .str z => .str z
  | .int i => .int i
  | _ => .none
def tokD (t : Tk4) : PyData := .tuple [vD t.1, vD t.2.1, .int (t.2.2.1 : Int), .int (t.2.2.2 : Int)]
def FlatT (t : Tk4) : Prop := (∃ z, t.1 = .str z) ∧ ((∃ z, t.2.1 = .str z) ∨ ∃ i, t.2.1 = .int i)
theorem good_flat {k v : V} {t : List Nat} {l c : Nat} (g : GoodTok k v t) : FlatT (k, v, l, c) := by
  cases g with
  | word => exact ⟨⟨_, rfl⟩, .inl ⟨_, rfl⟩⟩
  | name => exact ⟨⟨_, rfl⟩, .inl ⟨_, rfl⟩⟩
  | num => exact ⟨⟨_, rfl⟩, .inr ⟨_, rfl⟩⟩
  | long => exact ⟨⟨_, rfl⟩, .inl ⟨_, rfl⟩⟩
  | short => exact ⟨⟨_, rfl⟩, .inl ⟨_, rfl⟩⟩
theorem vD_dp {K : PySem.W.Frag} {H : Hp} {v : V} (h : (∃ z, v = .str z) ∨ ∃ i, v = .int i) : Dp K H v (vD v) := by
  rcases h with ⟨z, rfl⟩ | ⟨i, rfl⟩
  · exact .str z
  · exact .int i
theorem toks_dp {K : PySem.W.Frag} {H : Hp} : ∀ {vs : List V} {ts : List Tk4}, Toks H vs ts → (∀ t ∈ ts, FlatT t) → DpAll K H vs (ts.map tokD)
  | _, _, .nil, _ => .nil
  | _, _, .cons h r, f => by
    obtain ⟨h1, h2⟩ := f _ List.mem_cons_self
    exact .cons (.tup (SqT.of h) (.cons (vD_dp (.inl h1)) (.cons (vD_dp h2) (.cons (.int _) (.cons (.int _) .nil))))) (toks_dp r fun t ht => f t (List.mem_cons_of_mem _ ht))
theorem ok_vD {v : V} (h : (∃ z, v = .str z) ∨ ∃ i, v = .int i) : okD 0 (vD v) := by
  rcases h with ⟨z, rfl⟩ | ⟨i, rfl⟩ <;> trivial
theorem ok_tok {t : Tk4} (f : FlatT t) : okD 1 (tokD t) := by
  refine ⟨fun d hd => ?_, by simp⟩
  simp only [List.mem_cons, List.not_mem_nil, or_false] at hd
  rcases hd with rfl | rfl | rfl | rfl
  · exact ok_vD (.inl f.1)
  · exact ok_vD f.2
  · trivial
  · trivial
theorem mkT_flat {gs : List Tk3} {ps : List (Nat × Nat)} (h : GoodAll gs) : ∀ t ∈ mkT gs ps, FlatT t := fun t ht => by
  obtain ⟨⟨g, p⟩, hm, rfl⟩ := List.mem_map.mp ht
  exact good_flat (h g (List.of_mem_zip hm).1).1
theorem mkT_len {gs : List Tk3} {ps : List (Nat × Nat)} (h : ps.length = gs.length) : (mkT gs ps).length = gs.length := by simp [mkT, h]
theorem mkT_get {gs : List Tk3} {ps : List (Nat × Nat)} {i : Nat} (h1 : i < gs.length) (h2 : i < ps.length) : (mkT gs ps)[i]? = some (gs[i].1, gs[i].2.1, ps[i].1, ps[i].2) := by
  unfold mkT
  rw [List.getElem?_map, List.getElem?_eq_getElem (by rw [List.length_zip]; omega), List.getElem_zip]
  rfl
inductive TkL (H : Hp) : List V → List Tk3 → Prop where
  | nil : TkL H [] []
  | cons {q : Addr} {k v : V} {t : List Nat} {vs : List V} {gs : List Tk3} (h : H q = some (.tup [k, v, .str (sl t)])) (r : TkL H vs gs) : TkL H (.ref q :: vs) ((k, v, t) :: gs)
theorem TkL.keep {H H' : Hp} (k : KTu H H') : ∀ {vs : List V} {gs : List Tk3}, TkL H vs gs → TkL H' vs gs
  | _, _, .nil => .nil
  | _, _, .cons h r => .cons (k _ _ h) (r.keep k)
theorem TkL.snoc {H : Hp} {q : Addr} {k v : V} {t : List Nat} (h : H q = some (.tup [k, v, .str (sl t)])) : ∀ {vs : List V} {gs : List Tk3}, TkL H vs gs → TkL H (vs ++ [.ref q]) (gs ++ [(k, v, t)])
  | _, _, .nil => .cons h .nil
  | _, _, .cons h' r => .cons h' (r.snoc h)
theorem TkL.len {H : Hp} : ∀ {vs : List V} {gs : List Tk3}, TkL H vs gs → vs.length = gs.length
  | _, _, .nil => rfl
  | _, _, .cons _ r => congrArg (· + 1) r.len
theorem TkL.get {H : Hp} : ∀ {vs : List V} {gs : List Tk3} {i : Nat} {v : V}, TkL H vs gs → vs[i]? = some v → ∃ (q : Addr) (h : i < gs.length), v = .ref q ∧ H q = some (.tup [gs[i].1, gs[i].2.1, .str (sl gs[i].2.2)])
  | _, _, _, _, .nil, e => by simp at e
  | _, _, 0, _, .cons h _, e => by
    obtain rfl := Option.some.inj e
    exact ⟨_, by simp, rfl, h⟩
  | _, _, i + 1, _, .cons _ r, e => by
    obtain ⟨q, h1, h2, h3⟩ := r.get (i := i) (by simpa using e)
    exact ⟨q, by simpa using h1, h2, by simpa using h3⟩
def spLaw (K : PySem.W.Frag) : Sp := fun vs H Q _ => ∃ (a : Addr) (ns : List Int), vs = [.ref a] ∧ SqL K H a (ns.map V.int) ∧ ns.length ≤ 63 ∧ ∀ H', Q (.bl true) H'
theorem kt_st {st ca : Addr} {ns : List Int} {H H' : Hp} (S : StD H st ca ns) (f : Frs st H H') : KTu H H' := fun b ys hb => f b _ hb fun e => by
  obtain ⟨_, _, _, _, _, _, h⟩ := S.at'
  rw [e, h] at hb; cases hb
section
variable {P : Program} {w : World} {K : PySem.W.Frag} {mg : Str → Option Value} {base : Heap} {a : Ad}
theorem ok_scanC (T : Txt K mg a) (hP : PrgOk P a.file) : FnOk P w K mg base CX0 10 a.f_scan a.d_scan ["text"] spScanC := (FnOk.calm (ok_scan T hP)).imp fun vs H Q E h => by
  obtain ⟨cs, ts, l, c, rfl, hn, g, q⟩ := h
  refine ⟨cs, rfl, by omega, fun h => absurd h (by omega), fun _ ts2 l2 c2 g2 => ?_, fun _ ts2 l2 c2 g2 p xs H1 s np hp tk => ?_⟩
  · obtain ⟨_, e⟩ := txt_det g g2
    cases e
  · obtain ⟨rfl, e⟩ := txt_det g g2
    cases e
    exact q p xs H1 s np hp tk
theorem ok_law (T : Txt K mg a) (hP : PrgOk P a.file) : FnOk P w K mg base CX0 13 a.f_law a.d_law ["script"] (spLaw K) := by
  have G_law_state : FnOk P w K mg base CX0 1 _ _ _ _ := ok_law_state T
  have G_law_draw : FnOk P w K mg base CX0 3 _ _ _ _ := ok_law_draw T
  have G_law_token : FnOk P w K mg base CX0 5 _ _ _ _ := ok_law_token T
  have G_law_layout : FnOk P w K mg base CX0 8 _ _ _ _ := ok_law_layout T
  have G_law_same : FnOk P w K mg base CX0 3 _ _ _ _ := ok_same T 2
  have G_scan : FnOk P w K mg base CX0 10 _ _ _ _ := ok_scanC T hP
  refine T.F_law.ok sc_law (fun vs H Q E h => ?_) (fun cdv A outer s H vs Q E hr h => ?_)
  · obtain ⟨_, _, rfl, _⟩ := h; rfl
  · obtain ⟨sa, ns, rfl, hS, hl, q⟩ := h
    have hz := sizeLine_eq
    refine ⟨_, (pss_cons (ps_set (i := 1) sc_law.nd rfl (Or.inr rfl) (pe_call G_law_state (hr.mono (by decide)) rfl T.g__law_state T.k__law_state T.bd__law_state .nil pass0 (pa_cons (pv 0) (pa_cons pe_int pa_nil))))
      (pss_cons (ps_set (i := 2) sc_law.nd rfl (Or.inr rfl) (pe_lc (own := [("k", 3)]) (g := gName 3) rfl sc_law.nd (pi_range1 rfl T.b_range (pa_cons (pe_call G_law_draw (hr.mono (by decide)) rfl T.g__law_draw T.k__law_draw T.bd__law_draw .nil pass0 (pa_cons (pv 1) (pa_cons pe_int pa_nil))) pa_nil)) (blkOk_by (own := [("k", 3)]) (N := ["script", "state", "tokens", "k", "text", "places", "token", "due", "actual", "again"]) (sc := defScope s_law) (by decide +kernel)) (fun _ _ _ _ _ => pg_name (i := 3) sc_law.nd rfl (Or.inl rfl)) (fun _ _ _ _ _ => pts_nil) (fun _ _ _ _ _ => (pe_call G_law_token (hr.mono (by decide)) rfl T.g__law_token T.k__law_token T.bd__law_token .nil pass0 (pa_cons (pv 1) pa_nil)))))
      (pss_cons (ps_asg (pe_call G_law_layout (hr.mono (by decide)) rfl T.g__law_layout T.k__law_layout T.bd__law_layout .nil pass0 (pa_cons (pv 1) (pa_cons (pe_lc (own := [("token", 6)]) (g := gName 6) rfl sc_law.nd (pi_list (pv 2)) (blkOk_by (own := [("token", 6)]) (N := ["script", "state", "tokens", "k", "text", "places", "token", "due", "actual", "again"]) (sc := defScope s_law) (by decide +kernel)) (fun _ _ _ _ _ => pg_name (i := 6) sc_law.nd rfl (Or.inl rfl)) (fun _ _ _ _ _ => pts_nil) (fun _ _ _ _ _ => (pe_ix (ix_tupK (K := K) rfl) (pv 6) pe_int (fun _ _ => rfl)))) pa_nil))) (pg_tup rfl (pgs_cons (pg_name (i := 4) sc_law.nd rfl (Or.inl rfl)) (pgs_cons (pg_name (i := 5) sc_law.nd rfl (Or.inr rfl)) pgs_nil))))
      (pss_cons (ps_setLc (i := 7) (own := [("k", 3)]) (g := gName 3) rfl sc_law.nd rfl rfl (sw_true rfl rfl rfl (by decide +kernel)) (pi_range1 rfl T.b_range (pa_cons (pe_callB call_len_seq (by rfl) T.b_len (by decide +kernel) (pa_cons (pv 2) pa_nil)) pa_nil)) (blkOk_by (own := [("k", 3)]) (N := ["script", "state", "tokens", "k", "text", "places", "token", "due", "actual", "again"]) (sc := defScope s_law) (by decide +kernel)) (fun _ _ _ _ _ => pg_name (i := 3) sc_law.nd rfl (Or.inl rfl)) (fun _ _ _ _ _ => pts_nil) (fun _ _ _ _ _ => (pe_op (op_catTK (K := K) rfl) (pe_slice (sl_tupK (K := K) rfl) (pe_ix (ix_listK (K := K) rfl) (pv 2) (pv 3) (fun _ _ => rfl)) po_none (po_some pe_int)) (pe_ix (ix_listK (K := K) rfl) (pv 5) (pv 3) (fun _ _ => rfl)))))
      (pss_cons (ps_expr (pe_bm PySem.F.plainAttrs_list PySem.F.slot_list_append PySem.F.type_list_append mt_append (pv 7) (pa_cons (pe_op op_catT (pe_tup (pa_cons pe_str (pa_cons pe_str pa_nil))) (pe_ix ix_list (pv 5) (pe_un un_neg pe_int) (fun _ _ => rfl))) pa_nil)))
      (pss_cons (ps_set (i := 8) sc_law.nd rfl (Or.inl rfl) (pe_call G_scan (hr.mono (by decide)) rfl T.g_scan T.k_scan T.bd_scan .nil pass0 (pa_cons (pv 4) pa_nil)))
      (pss_cons (ps_if (PW.pt (pw_or (pt_not (pt_val (pe_callB call_isi (by rfl) T.b_isinstance (by decide +kernel) (pa_cons (pv 8) (pa_cons (pe_bltn (v := .ty "list") (by rfl) T.b_list (by decide +kernel) rfl) pa_nil))))) (pw_or1 (pt_not (pt_val (pe_call G_law_same (hr.mono (by decide)) rfl T.g__law_same T.k__law_same T.bd__law_same .nil pass0 (pa_cons (pe_callTy call_tuple_of (by rfl) T.b_tuple (by decide +kernel) (pa_cons (pv 8) pa_nil)) (pa_cons (pe_callTy call_tuple_of (by rfl) T.b_tuple (by decide +kernel) (pa_cons (pv 7) pa_nil)) pa_nil)))))))) (pss_one (ps_ret pe_bl)) pss_nil)
      (pss_cons (ps_expr (pe_bm0 PySem.F.plainAttrs_list PySem.F.slot_list_clear PySem.F.type_list_clear mt_clear (pv 8)))
      (pss_cons (ps_set (i := 9) sc_law.nd rfl (Or.inl rfl) (pe_call G_scan (hr.mono (by decide)) rfl T.g_scan T.k_scan T.bd_scan .nil pass0 (pa_cons (pv 4) pa_nil)))
      (pss_one (ps_ret (pe_and (pe_callB call_isi (by rfl) T.b_isinstance (by decide +kernel) (pa_cons (pv 9) (pa_cons (pe_bltn (v := .ty "list") (by rfl) T.b_list (by decide +kernel) rfl) pa_nil))) (pe_one (pe_call G_law_same (hr.mono (by decide)) rfl T.g__law_same T.k__law_same T.bd__law_same .nil pass0 (pa_cons (pe_callTy call_tuple_of (by rfl) T.b_tuple (by decide +kernel) (pa_cons (pv 9) pa_nil)) (pa_cons (pe_callTy call_tuple_of (by rfl) T.b_tuple (by decide +kernel) (pa_cons (pv 7) pa_nil)) pa_nil)))))))))))))))), ?_⟩
    refine ⟨_, rfl, sa, ns, 0, rfl, hS, hl, fun st ca H1 nst S1 s1 => ?_⟩
    refine ⟨_, rfl, st, ca, ns, 33, rfl, S1, by decide, by decide, fun v H2 v0 v1 S2 f2 => ⟨_, rfl, by omega, by omega, fun D nD => ?_⟩⟩
    have Dst := S2.ne nD
    have Dca := S2.neC nD
    refine lc_range (lo := 0) (n := v.toNat) (fun i H' => ∃ vs gs, H' D = some (.lst vs) ∧ TkL H' vs gs ∧ gs.length = i ∧ GoodAll gs ∧ StD H' st ca ns) ⟨[], [], upd_same, .nil, rfl, (fun g h => nomatch h), S2.new nD⟩ ?_ ?_
    · rintro i H' hi ⟨vs, gs, hD, tk, hgl, hgs, S3⟩
      refine ⟨rfl, ?_⟩
      refine ⟨_, rfl, st, ca, ns, rfl, S3, fun k v t p H4 hg ht np hp S4 f4 => ?_⟩
      have hD4 := f4 D _ hD Dst
      have pD : p ≠ D := fun e => by rw [e, hD] at np; cases np
      refine ⟨vs, hD4, by rw [tk.len]; omega, vs ++ [.ref p], gs ++ [(k, v, t)], upd_same, ?_, by simp [hgl], fun g h => ?_, S4.upd Dst Dca⟩
      · refine TkL.snoc (by rw [upd_ne pD]; exact hp) (tk.keep fun b ys hb => ?_)
        rw [upd_ne (fun e => by rw [e, hD] at hb; cases hb)]
        exact kt_st S3 f4 b ys hb
      · rcases List.mem_append.mp h with h | h
        · exact hgs g h
        · rw [List.mem_singleton.mp h]; exact ⟨hg, ht⟩
    rintro H' ⟨vs, gs, hD, tk, hgl, hgs, S3⟩
    have hvl := tk.len
    refine ⟨_, rfl, _, rfl, D, rfl, ⟨_, SqL.of hD⟩, fun D2 nD2 => lc_list (K := K) (a := D) (xs := vs) (fun i H4 => Same H' H4 ∧ H4 D2 = some (.lst (((gs.take i).map fun g => sl g.2.2).map V.str))) ⟨sN (Same.refl H') nD2, upd_same⟩ (fun i H4 _ h => SqL.of (h.1 _ _ hD)) ?_ ?_⟩
    · rintro i x H4 hx ⟨ss, hD2⟩
      obtain ⟨u, hi, rfl, hu⟩ := tk.get hx
      refine ⟨rfl, ?_⟩
      refine ⟨_, rfl, _, _, _, _, rfl, rfl, SqT.of (ss _ _ hu), rfl, _, hD2, by simp; omega, sUpd ss nD2, ?_⟩
      rw [upd_same, List.take_succ_eq_append_getElem hi, List.map_append, List.map_append]
      rfl
    rintro H4 ⟨ss4, hD2⟩
    rw [hvl, List.take_length] at hD2
    have S4 := S3.same ss4
    refine ⟨st, ca, ns, D2, gs, rfl, S4, hD2, hgs, by omega, fun cs ps l c p qa xs H6 hcs hps g hqa pl hp np nqa S6 f6 => ⟨p, _, rfl, SqT.of hp, rfl, _, _, rfl, _, _, rfl, rfl, ?_⟩⟩
    have hD6 := f6 D _ (ss4 _ _ hD) Dst
    have tk6 : TkL H6 vs gs := tk.keep fun b ys hb => kt_st S4 f6 b ys (ss4 _ _ hb)
    have hxl := pl.len
    rw [List.length_append] at hxl
    obtain ⟨ws, q0, rfl, plw⟩ := pl.unsnoc
    have hml := mkT_len hps
    refine ⟨_, rfl, D, _, rfl, .inl (SqL.of hD6), _, rfl, by omega, by omega, fun D3 nD3 => ?_⟩
    refine lc_range (lo := 0) (n := (vs.length : Int).toNat) (fun i H7 => Same H6 H7 ∧ ∃ us, H7 D3 = some (.lst us) ∧ Toks H7 us ((mkT gs ps).take i)) ⟨sN (Same.refl H6) nD3, [], upd_same, .nil⟩ ?_ ?_
    · rintro i H7 hi ⟨ss, us, hD3, tu⟩
      have hi' : i < gs.length := by omega
      obtain ⟨v1, hv1⟩ : ∃ v1, vs[i]? = some v1 := ⟨_, List.getElem?_eq_getElem (by omega)⟩
      obtain ⟨u1, _, rfl, h1⟩ := tk6.get hv1
      have hpi : (ps ++ [(l, c)])[i]? = some ps[i] := by rw [List.getElem?_append_left (by omega), List.getElem?_eq_getElem (by omega)]
      obtain ⟨u2, hu2, h2⟩ := pl.get hpi
      rw [Int.zero_add]
      refine ⟨rfl, ?_⟩
      refine ⟨_, rfl, _, rfl, _, _, _, _, rfl, rfl, SqL.of (ss _ _ hD6), atI_nat hv1, ?_⟩
      refine ⟨_, rfl, _, _, rfl, SqT.of (ss _ _ h1), (by show ¬ (HT.sIx 3 0 none = 0 ∧ HT.sIx 3 3 (some 2) = 3); decide), fun p1 np1 => ?_⟩
      have s1 := sN (Same.refl H7) np1 (o := .tup (cutV [gs[i].1, gs[i].2.1, V.str (sl gs[i].2.2)] none (some 2)))
      refine ⟨_, rfl, _, rfl, _, _, _, _, rfl, rfl, SqL.of (s1 _ _ (ss _ _ hqa)), atI_nat hu2, ?_⟩
      refine ⟨_, _, _, _, rfl, rfl, SqT.of upd_same, SqT.of (s1 _ _ (ss _ _ h2)), (fun z => nomatch z), (by show 2 + 2 ≤ sizeLine; decide), (fun z => nomatch z), fun _ p2 np2 => ?_⟩
      have s2 := Same.tr s1 (sN (Same.refl _) np2 (o := .tup (cutV [gs[i].1, gs[i].2.1, V.str (sl gs[i].2.2)] none (some 2) ++ [.int (ps[i].1 : Int), .int (ps[i].2 : Int)])))
      have hp2D : p2 ≠ D3 := (ne_of_none (s1 _ _ hD3) np2).symm
      refine ⟨us, s2 _ _ hD3, by have := tu.len; rw [List.length_take] at this; omega, sUpd (Same.tr ss s2) nD3, us ++ [.ref p2], upd_same, ?_⟩
      rw [List.take_succ, mkT_get (by omega) (by omega)]
      refine Toks.app (tu.keep fun b ys hb => ?_) (.cons ?_ .nil)
      · rw [upd_ne (fun e => by rw [e, hD3] at hb; cases hb)]
        exact s2 _ _ hb
      · rw [upd_ne hp2D]
        exact upd_same
    rintro H7 ⟨ss, us, hD3, tu⟩
    rw [List.take_of_length_le (by omega)] at tu
    have hul := tu.len
    refine ⟨_, rfl, .inl ⟨rfl, _, SqL.of hD3⟩, (by show 2 ≤ sizeLine; decide), fun p3 np3 => ?_⟩
    have s3 := sN (Same.refl H7) np3 (o := .tup [V.str "end", V.str ""])
    have hqa3 := s3 _ _ (ss _ _ hqa)
    obtain ⟨u9, hu9, h9⟩ := pl.get (i := ps.length) (p := (l, c)) (by simp)
    have hq0 : H6 q0 = some (.tup [.int (l : Int), .int (c : Int)]) := by
      have hwl := plw.len
      rw [← hwl, List.getElem?_append_right (Nat.le_refl _), Nat.sub_self] at hu9
      obtain rfl : q0 = u9 := by simpa using hu9
      exact h9
    refine ⟨_, rfl, 1, rfl, _, _, _, _, rfl, rfl, SqL.of hqa3, last_at, ?_⟩
    refine ⟨_, _, _, _, rfl, rfl, SqT.of upd_same, SqT.of (s3 _ _ (ss _ _ hq0)), (fun z => nomatch z), (by show 2 + 2 ≤ sizeLine; decide), (fun z => nomatch z), fun _ p4 np4 => ?_⟩
    have s4 := Same.tr s3 (sN (Same.refl _) np4 (o := .tup ([V.str "end", V.str ""] ++ [.int (l : Int), .int (c : Int)])))
    have hp4D : p4 ≠ D3 := (ne_of_none (s3 _ _ hD3) np4).symm
    refine ⟨D3, us, _, rfl, rfl, s4 _ _ hD3, by omega, ?_⟩
    have hdue : Toks (upd (upd (upd H7 p3 (.tup [V.str "end", V.str ""])) p4 (.tup ([V.str "end", V.str ""] ++ [.int (l : Int), .int (c : Int)]))) D3 (.lst (us ++ [.ref p4]))) (us ++ [.ref p4]) (mkT gs ps ++ [endT l c]) := by
      refine Toks.app (tu.keep fun b ys hb => ?_) (.cons ?_ .nil)
      · rw [upd_ne (fun e => by rw [e, hD3] at hb; cases hb)]
        exact s4 _ _ hb
      · rw [upd_ne hp4D]
        exact upd_same
    have hdl := upd_same (H := upd (upd H7 p3 (.tup [V.str "end", V.str ""])) p4 (.tup ([V.str "end", V.str ""] ++ [.int (l : Int), .int (c : Int)]))) (a := D3) (o := .lst (us ++ [.ref p4]))
    generalize upd (upd (upd H7 p3 (.tup [V.str "end", V.str ""])) p4 (.tup ([V.str "end", V.str ""] ++ [.int (l : Int), .int (c : Int)]))) D3 (.lst (us ++ [.ref p4])) = H8 at hdue hdl ⊢
    generalize us ++ [.ref p4] = du at hdue hdl
    have hfl : ∀ t ∈ mkT gs ps ++ [endT l c], FlatT t := fun t ht => by
      rcases List.mem_append.mp ht with ht | ht
      · exact mkT_flat hgs t ht
      · rw [List.mem_singleton.mp ht]; exact ⟨⟨_, rfl⟩, .inl ⟨_, rfl⟩⟩
    have hok : okD 2 (.tuple ((mkT gs ps ++ [endT l c]).map tokD)) := by
      refine ⟨fun d hd => ?_, by simp; omega⟩
      obtain ⟨t, ht, rfl⟩ := List.mem_map.mp hd
      exact ok_tok (hfl t ht)
    refine ⟨_, rfl, cs, _, l, c, rfl, hcs, g, fun pa xa H9 s9 npa hpa tka => ?_⟩
    refine ⟨_, rfl, _, _, _, _, _, rfl, .ty _, .base (.lst hpa), kit_ty (by decide +kernel : kitB "list" "list" = some true), _, rfl, iteF ?_⟩
    refine ⟨_, rfl, pa, _, rfl, .inl ⟨SqL.of hpa, fun t1 nt1 => ?_⟩⟩
    have sa := sN (Same.refl H9) nt1 (o := .tup xa)
    refine ⟨_, rfl, D3, _, rfl, .inl ⟨SqL.of (sa _ _ (s9 _ _ hdl)), fun t2 nt2 => ?_⟩⟩
    have sb := sN (Same.refl _) nt2 (o := .tup du)
    have sab := Same.tr sa sb
    refine ⟨_, _, .tuple ((mkT gs ps ++ [endT l c]).map tokD), rfl, .tup (SqT.of (sb _ _ upd_same)) (toks_dp (tka.keep fun b ys hb => sab _ _ hb) hfl), .tup (SqT.of upd_same) (toks_dp (hdue.keep fun b ys hb => sab _ _ (s9 _ _ hb)) hfl), hok, fun H10 s10 => ⟨_, rfl, iteF ?_⟩⟩
    have s11 := Same.tr sab s10
    have hpa10 := s11 _ _ hpa
    have hd10 := s11 _ _ (s9 _ _ hdl)
    have hpD : D3 ≠ pa := fun e => by rw [e, npa] at hdl; cases hdl
    refine ⟨_, rfl, .inl ⟨rfl, _, SqL.of hpa10⟩, pa, xa, rfl, rfl, hpa10, ?_⟩
    have hd11 : upd H10 pa (.lst []) D3 = some (.lst du) := by rw [upd_ne hpD]; exact hd10
    have hdue11 : Toks (upd H10 pa (.lst [])) du (mkT gs ps ++ [endT l c]) := hdue.keep fun b ys hb => by
      rw [upd_ne (fun e => by rw [e, npa] at hb; cases hb)]
      exact s11 _ _ (s9 _ _ hb)
    refine ⟨_, rfl, cs, _, l, c, rfl, hcs, g, fun pb xb H12 s12 npb hpb tkb => ?_⟩
    refine ⟨_, rfl, _, _, _, _, _, rfl, .ty _, .base (.lst hpb), kit_ty (by decide +kernel : kitB "list" "list" = some true), _, rfl, iteT ?_⟩
    refine ⟨_, rfl, pb, _, rfl, .inl ⟨SqL.of hpb, fun t1 nt1 => ?_⟩⟩
    have sa' := sN (Same.refl H12) nt1 (o := .tup xb)
    refine ⟨_, rfl, D3, _, rfl, .inl ⟨SqL.of (sa' _ _ (s12 _ _ hd11)), fun t2 nt2 => ?_⟩⟩
    have sb' := sN (Same.refl _) nt2 (o := .tup du)
    have sab' := Same.tr sa' sb'
    exact ⟨_, _, .tuple ((mkT gs ps ++ [endT l c]).map tokD), rfl, .tup (SqT.of (sb' _ _ upd_same)) (toks_dp (tkb.keep fun b ys hb => sab' _ _ hb) hfl), .tup (SqT.of upd_same) (toks_dp (hdue11.keep fun b ys hb => sab' _ _ (s12 _ _ hb)) hfl), hok, fun H13 _ => q _⟩
end

set_option pp.maxSteps 400
set_option pp.deepTerms false
theorem all_mk {l : PySem.W.OpenLaw} {w : World} {K : PySem.W.Frag} {h : Heap} {mg : Str → Option Value} {fa : Addr} (X : K.In h) (G : h.Ns mainGlobals mg) (hfa : mg "law" = some (.ref fa))
    {C_AdaError : Addr} (aC_AdaError : PySem.W.nsIn K mainGlobals "AdaError" = some (some (.ref C_AdaError)))
    (s1_AdaError : PySem.W.subIn K (.ref C_AdaError) (.type "BaseException") = some true) (ty_AdaError : PySem.W.typeIn K (.ref C_AdaError) = some (.type "type")) (ic_AdaError : PySem.W.isClsIn K C_AdaError = true)
    {C_SourceError : Addr} (aC_SourceError : PySem.W.nsIn K mainGlobals "SourceError" = some (some (.ref C_SourceError)))
    (s1_SourceError : PySem.W.subIn K (.ref C_SourceError) (.type "BaseException") = some true) (ty_SourceError : PySem.W.typeIn K (.ref C_SourceError) = some (.type "type")) (ic_SourceError : PySem.W.isClsIn K C_SourceError = true)
    {C_ScanError : Addr} (aC_ScanError : PySem.W.nsIn K mainGlobals "ScanError" = some (some (.ref C_ScanError)))
    (s1_ScanError : PySem.W.subIn K (.ref C_ScanError) (.type "BaseException") = some true) (ty_ScanError : PySem.W.typeIn K (.ref C_ScanError) = some (.type "type")) (ic_ScanError : PySem.W.isClsIn K C_ScanError = true)
    {C_TooLarge : Addr} (aC_TooLarge : PySem.W.nsIn K mainGlobals "TooLarge" = some (some (.ref C_TooLarge)))
    (s1_TooLarge : PySem.W.subIn K (.ref C_TooLarge) (.type "BaseException") = some true) (ty_TooLarge : PySem.W.typeIn K (.ref C_TooLarge) = some (.type "type")) (ic_TooLarge : PySem.W.isClsIn K C_TooLarge = true)
    {f_scan : Addr} {oc_scan : Value} {od_scan an_scan : Option Addr} {sl_scan : Array (Option Value)} {kV_scan dc_scan pm_scan cd_scan ct_scan : Value}
    (a_scan : PySem.W.nsIn K mainGlobals "scan" = some (some (.ref f_scan)))
    (l_scan : K.lookup f_scan = some ⟨oc_scan, od_scan, .func (PySem.W.fnOf "scan" "scan" (defArgs s_scan) (defBody s_scan) (defScope s_scan) .none kV_scan dc_scan pm_scan an_scan cd_scan ct_scan), sl_scan⟩)
    (c_scan : PySem.W.codeIn K cd_scan "scan" = true)
    (k_scan : PySem.W.keepIn K (.ref f_scan) = true)
    {f_scan_row : Addr} {oc_scan_row : Value} {od_scan_row an_scan_row : Option Addr} {sl_scan_row : Array (Option Value)} {kV_scan_row dc_scan_row pm_scan_row cd_scan_row ct_scan_row : Value}
    (a_scan_row : PySem.W.nsIn K mainGlobals "_scan_row" = some (some (.ref f_scan_row)))
    (l_scan_row : K.lookup f_scan_row = some ⟨oc_scan_row, od_scan_row, .func (PySem.W.fnOf "_scan_row" "_scan_row" (defArgs s_scan_row) (defBody s_scan_row) (defScope s_scan_row) .none kV_scan_row dc_scan_row pm_scan_row an_scan_row cd_scan_row ct_scan_row), sl_scan_row⟩)
    (c_scan_row : PySem.W.codeIn K cd_scan_row "_scan_row" = true)
    (k_scan_row : PySem.W.keepIn K (.ref f_scan_row) = true)
    {f_token_at : Addr} {oc_token_at : Value} {od_token_at an_token_at : Option Addr} {sl_token_at : Array (Option Value)} {kV_token_at dc_token_at pm_token_at cd_token_at ct_token_at : Value}
    (a_token_at : PySem.W.nsIn K mainGlobals "_token_at" = some (some (.ref f_token_at)))
    (l_token_at : K.lookup f_token_at = some ⟨oc_token_at, od_token_at, .func (PySem.W.fnOf "_token_at" "_token_at" (defArgs s_token_at) (defBody s_token_at) (defScope s_token_at) .none kV_token_at dc_token_at pm_token_at an_token_at cd_token_at ct_token_at), sl_token_at⟩)
    (c_token_at : PySem.W.codeIn K cd_token_at "_token_at" = true)
    (k_token_at : PySem.W.keepIn K (.ref f_token_at) = true)
    {f_word_at : Addr} {oc_word_at : Value} {od_word_at an_word_at : Option Addr} {sl_word_at : Array (Option Value)} {kV_word_at dc_word_at pm_word_at cd_word_at ct_word_at : Value}
    (a_word_at : PySem.W.nsIn K mainGlobals "_word_at" = some (some (.ref f_word_at)))
    (l_word_at : K.lookup f_word_at = some ⟨oc_word_at, od_word_at, .func (PySem.W.fnOf "_word_at" "_word_at" (defArgs s_word_at) (defBody s_word_at) (defScope s_word_at) .none kV_word_at dc_word_at pm_word_at an_word_at cd_word_at ct_word_at), sl_word_at⟩)
    (c_word_at : PySem.W.codeIn K cd_word_at "_word_at" = true)
    (k_word_at : PySem.W.keepIn K (.ref f_word_at) = true)
    {f_number_at : Addr} {oc_number_at : Value} {od_number_at an_number_at : Option Addr} {sl_number_at : Array (Option Value)} {kV_number_at dc_number_at pm_number_at cd_number_at ct_number_at : Value}
    (a_number_at : PySem.W.nsIn K mainGlobals "_number_at" = some (some (.ref f_number_at)))
    (l_number_at : K.lookup f_number_at = some ⟨oc_number_at, od_number_at, .func (PySem.W.fnOf "_number_at" "_number_at" (defArgs s_number_at) (defBody s_number_at) (defScope s_number_at) .none kV_number_at dc_number_at pm_number_at an_number_at cd_number_at ct_number_at), sl_number_at⟩)
    (c_number_at : PySem.W.codeIn K cd_number_at "_number_at" = true)
    (k_number_at : PySem.W.keepIn K (.ref f_number_at) = true)
    {f_characters_at : Addr} {oc_characters_at : Value} {od_characters_at an_characters_at : Option Addr} {sl_characters_at : Array (Option Value)} {kV_characters_at dc_characters_at pm_characters_at cd_characters_at ct_characters_at : Value}
    (a_characters_at : PySem.W.nsIn K mainGlobals "_characters_at" = some (some (.ref f_characters_at)))
    (l_characters_at : K.lookup f_characters_at = some ⟨oc_characters_at, od_characters_at, .func (PySem.W.fnOf "_characters_at" "_characters_at" (defArgs s_characters_at) (defBody s_characters_at) (defScope s_characters_at) .none kV_characters_at dc_characters_at pm_characters_at an_characters_at cd_characters_at ct_characters_at), sl_characters_at⟩)
    (c_characters_at : PySem.W.codeIn K cd_characters_at "_characters_at" = true)
    (k_characters_at : PySem.W.keepIn K (.ref f_characters_at) = true)
    {f_law_mixed : Addr} {oc_law_mixed : Value} {od_law_mixed an_law_mixed : Option Addr} {sl_law_mixed : Array (Option Value)} {kV_law_mixed dc_law_mixed pm_law_mixed cd_law_mixed ct_law_mixed : Value}
    (a_law_mixed : PySem.W.nsIn K mainGlobals "_law_mixed" = some (some (.ref f_law_mixed)))
    (l_law_mixed : K.lookup f_law_mixed = some ⟨oc_law_mixed, od_law_mixed, .func (PySem.W.fnOf "_law_mixed" "_law_mixed" (defArgs s_law_mixed) (defBody s_law_mixed) (defScope s_law_mixed) .none kV_law_mixed dc_law_mixed pm_law_mixed an_law_mixed cd_law_mixed ct_law_mixed), sl_law_mixed⟩)
    (c_law_mixed : PySem.W.codeIn K cd_law_mixed "_law_mixed" = true)
    (k_law_mixed : PySem.W.keepIn K (.ref f_law_mixed) = true)
    {f_law_state : Addr} {oc_law_state : Value} {od_law_state an_law_state : Option Addr} {sl_law_state : Array (Option Value)} {kV_law_state dc_law_state pm_law_state cd_law_state ct_law_state : Value}
    (a_law_state : PySem.W.nsIn K mainGlobals "_law_state" = some (some (.ref f_law_state)))
    (l_law_state : K.lookup f_law_state = some ⟨oc_law_state, od_law_state, .func (PySem.W.fnOf "_law_state" "_law_state" (defArgs s_law_state) (defBody s_law_state) (defScope s_law_state) .none kV_law_state dc_law_state pm_law_state an_law_state cd_law_state ct_law_state), sl_law_state⟩)
    (c_law_state : PySem.W.codeIn K cd_law_state "_law_state" = true)
    (k_law_state : PySem.W.keepIn K (.ref f_law_state) = true)
    {f_law_draw : Addr} {oc_law_draw : Value} {od_law_draw an_law_draw : Option Addr} {sl_law_draw : Array (Option Value)} {kV_law_draw dc_law_draw pm_law_draw cd_law_draw ct_law_draw : Value}
    (a_law_draw : PySem.W.nsIn K mainGlobals "_law_draw" = some (some (.ref f_law_draw)))
    (l_law_draw : K.lookup f_law_draw = some ⟨oc_law_draw, od_law_draw, .func (PySem.W.fnOf "_law_draw" "_law_draw" (defArgs s_law_draw) (defBody s_law_draw) (defScope s_law_draw) .none kV_law_draw dc_law_draw pm_law_draw an_law_draw cd_law_draw ct_law_draw), sl_law_draw⟩)
    (c_law_draw : PySem.W.codeIn K cd_law_draw "_law_draw" = true)
    (k_law_draw : PySem.W.keepIn K (.ref f_law_draw) = true)
    {f_law_reserved : Addr} {oc_law_reserved : Value} {od_law_reserved an_law_reserved : Option Addr} {sl_law_reserved : Array (Option Value)} {kV_law_reserved dc_law_reserved pm_law_reserved cd_law_reserved ct_law_reserved : Value}
    (a_law_reserved : PySem.W.nsIn K mainGlobals "_law_reserved" = some (some (.ref f_law_reserved)))
    (l_law_reserved : K.lookup f_law_reserved = some ⟨oc_law_reserved, od_law_reserved, .func (PySem.W.fnOf "_law_reserved" "_law_reserved" (defArgs s_law_reserved) (defBody s_law_reserved) (defScope s_law_reserved) .none kV_law_reserved dc_law_reserved pm_law_reserved an_law_reserved cd_law_reserved ct_law_reserved), sl_law_reserved⟩)
    (c_law_reserved : PySem.W.codeIn K cd_law_reserved "_law_reserved" = true)
    (k_law_reserved : PySem.W.keepIn K (.ref f_law_reserved) = true)
    {f_law_char : Addr} {oc_law_char : Value} {od_law_char an_law_char : Option Addr} {sl_law_char : Array (Option Value)} {kV_law_char dc_law_char pm_law_char cd_law_char ct_law_char : Value}
    (a_law_char : PySem.W.nsIn K mainGlobals "_law_char" = some (some (.ref f_law_char)))
    (l_law_char : K.lookup f_law_char = some ⟨oc_law_char, od_law_char, .func (PySem.W.fnOf "_law_char" "_law_char" (defArgs s_law_char) (defBody s_law_char) (defScope s_law_char) .none kV_law_char dc_law_char pm_law_char an_law_char cd_law_char ct_law_char), sl_law_char⟩)
    (c_law_char : PySem.W.codeIn K cd_law_char "_law_char" = true)
    (k_law_char : PySem.W.keepIn K (.ref f_law_char) = true)
    {f_law_name : Addr} {oc_law_name : Value} {od_law_name an_law_name : Option Addr} {sl_law_name : Array (Option Value)} {kV_law_name dc_law_name pm_law_name cd_law_name ct_law_name : Value}
    (a_law_name : PySem.W.nsIn K mainGlobals "_law_name" = some (some (.ref f_law_name)))
    (l_law_name : K.lookup f_law_name = some ⟨oc_law_name, od_law_name, .func (PySem.W.fnOf "_law_name" "_law_name" (defArgs s_law_name) (defBody s_law_name) (defScope s_law_name) .none kV_law_name dc_law_name pm_law_name an_law_name cd_law_name ct_law_name), sl_law_name⟩)
    (c_law_name : PySem.W.codeIn K cd_law_name "_law_name" = true)
    (k_law_name : PySem.W.keepIn K (.ref f_law_name) = true)
    {f_law_number : Addr} {oc_law_number : Value} {od_law_number an_law_number : Option Addr} {sl_law_number : Array (Option Value)} {kV_law_number dc_law_number pm_law_number cd_law_number ct_law_number : Value}
    (a_law_number : PySem.W.nsIn K mainGlobals "_law_number" = some (some (.ref f_law_number)))
    (l_law_number : K.lookup f_law_number = some ⟨oc_law_number, od_law_number, .func (PySem.W.fnOf "_law_number" "_law_number" (defArgs s_law_number) (defBody s_law_number) (defScope s_law_number) .none kV_law_number dc_law_number pm_law_number an_law_number cd_law_number ct_law_number), sl_law_number⟩)
    (c_law_number : PySem.W.codeIn K cd_law_number "_law_number" = true)
    (k_law_number : PySem.W.keepIn K (.ref f_law_number) = true)
    {f_law_digits : Addr} {oc_law_digits : Value} {od_law_digits an_law_digits : Option Addr} {sl_law_digits : Array (Option Value)} {kV_law_digits dc_law_digits pm_law_digits cd_law_digits ct_law_digits : Value}
    (a_law_digits : PySem.W.nsIn K mainGlobals "_law_digits" = some (some (.ref f_law_digits)))
    (l_law_digits : K.lookup f_law_digits = some ⟨oc_law_digits, od_law_digits, .func (PySem.W.fnOf "_law_digits" "_law_digits" (defArgs s_law_digits) (defBody s_law_digits) (defScope s_law_digits) .none kV_law_digits dc_law_digits pm_law_digits an_law_digits cd_law_digits ct_law_digits), sl_law_digits⟩)
    (c_law_digits : PySem.W.codeIn K cd_law_digits "_law_digits" = true)
    (k_law_digits : PySem.W.keepIn K (.ref f_law_digits) = true)
    {f_law_gap : Addr} {oc_law_gap : Value} {od_law_gap an_law_gap : Option Addr} {sl_law_gap : Array (Option Value)} {kV_law_gap dc_law_gap pm_law_gap cd_law_gap ct_law_gap : Value}
    (a_law_gap : PySem.W.nsIn K mainGlobals "_law_gap" = some (some (.ref f_law_gap)))
    (l_law_gap : K.lookup f_law_gap = some ⟨oc_law_gap, od_law_gap, .func (PySem.W.fnOf "_law_gap" "_law_gap" (defArgs s_law_gap) (defBody s_law_gap) (defScope s_law_gap) .none kV_law_gap dc_law_gap pm_law_gap an_law_gap cd_law_gap ct_law_gap), sl_law_gap⟩)
    (c_law_gap : PySem.W.codeIn K cd_law_gap "_law_gap" = true)
    (k_law_gap : PySem.W.keepIn K (.ref f_law_gap) = true)
    {f_law_layout : Addr} {oc_law_layout : Value} {od_law_layout an_law_layout : Option Addr} {sl_law_layout : Array (Option Value)} {kV_law_layout dc_law_layout pm_law_layout cd_law_layout ct_law_layout : Value}
    (a_law_layout : PySem.W.nsIn K mainGlobals "_law_layout" = some (some (.ref f_law_layout)))
    (l_law_layout : K.lookup f_law_layout = some ⟨oc_law_layout, od_law_layout, .func (PySem.W.fnOf "_law_layout" "_law_layout" (defArgs s_law_layout) (defBody s_law_layout) (defScope s_law_layout) .none kV_law_layout dc_law_layout pm_law_layout an_law_layout cd_law_layout ct_law_layout), sl_law_layout⟩)
    (c_law_layout : PySem.W.codeIn K cd_law_layout "_law_layout" = true)
    (k_law_layout : PySem.W.keepIn K (.ref f_law_layout) = true)
    {f_law_same : Addr} {oc_law_same : Value} {od_law_same an_law_same : Option Addr} {sl_law_same : Array (Option Value)} {kV_law_same dc_law_same pm_law_same cd_law_same ct_law_same : Value}
    (a_law_same : PySem.W.nsIn K mainGlobals "_law_same" = some (some (.ref f_law_same)))
    (l_law_same : K.lookup f_law_same = some ⟨oc_law_same, od_law_same, .func (PySem.W.fnOf "_law_same" "_law_same" (defArgs s_law_same) (defBody s_law_same) (defScope s_law_same) .none kV_law_same dc_law_same pm_law_same an_law_same cd_law_same ct_law_same), sl_law_same⟩)
    (c_law_same : PySem.W.codeIn K cd_law_same "_law_same" = true)
    (k_law_same : PySem.W.keepIn K (.ref f_law_same) = true)
    {f_law_token : Addr} {oc_law_token : Value} {od_law_token an_law_token : Option Addr} {sl_law_token : Array (Option Value)} {kV_law_token dc_law_token pm_law_token cd_law_token ct_law_token : Value}
    (a_law_token : PySem.W.nsIn K mainGlobals "_law_token" = some (some (.ref f_law_token)))
    (l_law_token : K.lookup f_law_token = some ⟨oc_law_token, od_law_token, .func (PySem.W.fnOf "_law_token" "_law_token" (defArgs s_law_token) (defBody s_law_token) (defScope s_law_token) .none kV_law_token dc_law_token pm_law_token an_law_token cd_law_token ct_law_token), sl_law_token⟩)
    (c_law_token : PySem.W.codeIn K cd_law_token "_law_token" = true)
    (k_law_token : PySem.W.keepIn K (.ref f_law_token) = true)
    {f_law : Addr} {oc_law : Value} {od_law an_law : Option Addr} {sl_law : Array (Option Value)} {kV_law dc_law pm_law cd_law ct_law : Value}
    (a_law : PySem.W.nsIn K mainGlobals "law" = some (some (.ref f_law)))
    (l_law : K.lookup f_law = some ⟨oc_law, od_law, .func (PySem.W.fnOf "law" "law" (defArgs s_law) (defBody s_law) (defScope s_law) .none kV_law dc_law pm_law an_law cd_law ct_law), sl_law⟩)
    (c_law : PySem.W.codeIn K cd_law "law" = true)
    (k_law : PySem.W.keepIn K (.ref f_law) = true)
    {t_DIGITS : Tok} (a_DIGITS : PySem.W.nsIn K mainGlobals "DIGITS" = some (some (.str "0123456789" t_DIGITS)))
    {t_GREATEST_NUMBER : Tok} (a_GREATEST_NUMBER : PySem.W.nsIn K mainGlobals "GREATEST_NUMBER" = some (some (.int (2147483647) t_GREATEST_NUMBER)))
    {t_LETTERS : Tok} (a_LETTERS : PySem.W.nsIn K mainGlobals "LETTERS" = some (some (.str "abcdefghijklmnopqrstuvwxyz" t_LETTERS)))
    {t_LONGEST_NAME : Tok} (a_LONGEST_NAME : PySem.W.nsIn K mainGlobals "LONGEST_NAME" = some (some (.int (30) t_LONGEST_NAME)))
    {t_LONGEST_NUMBER : Tok} (a_LONGEST_NUMBER : PySem.W.nsIn K mainGlobals "LONGEST_NUMBER" = some (some (.int (10) t_LONGEST_NUMBER)))
    {t_LONGEST_TEXT : Tok} (a_LONGEST_TEXT : PySem.W.nsIn K mainGlobals "LONGEST_TEXT" = some (some (.int (4000) t_LONGEST_TEXT)))
    {c_LONG_SIGNS : Addr} {o_LONG_SIGNS : Obj} (a_LONG_SIGNS : PySem.W.nsIn K mainGlobals "LONG_SIGNS" = some (some (.ref c_LONG_SIGNS))) (l_LONG_SIGNS : K.lookup c_LONG_SIGNS = some o_LONG_SIGNS) (q_LONG_SIGNS : IsTupOf o_LONG_SIGNS [.str ":=", .str "=>", .str "..", .str "/=", .str "<=", .str ">="])
    {t_NAME_CHARACTERS : Tok} (a_NAME_CHARACTERS : PySem.W.nsIn K mainGlobals "NAME_CHARACTERS" = some (some (.str "abcdefghijklmnopqrstuvwxyz0123456789_" t_NAME_CHARACTERS)))
    {c_RESERVED : Addr} {o_RESERVED : Obj} (a_RESERVED : PySem.W.nsIn K mainGlobals "RESERVED" = some (some (.ref c_RESERVED))) (l_RESERVED : K.lookup c_RESERVED = some o_RESERVED) (q_RESERVED : IsTupOf o_RESERVED [.str "abs", .str "and", .str "array", .str "begin", .str "case", .str "constant", .str "declare", .str "else", .str "elsif", .str "end", .str "exception", .str "exit", .str "false", .str "for", .str "function", .str "get", .str "if", .str "in", .str "is", .str "loop", .str "mod", .str "not", .str "null", .str "of", .str "or", .str "others", .str "out", .str "procedure", .str "put", .str "raise", .str "range", .str "rem", .str "return", .str "reverse", .str "subtype", .str "then", .str "true", .str "type", .str "when", .str "while", .str "xor"])
    {t_SHORT_SIGNS : Tok} (a_SHORT_SIGNS : PySem.W.nsIn K mainGlobals "SHORT_SIGNS" = some (some (.str "(),:;'|+-*/=<>" t_SHORT_SIGNS)))
    (z_abs : PySem.W.nsIn K mainGlobals "abs" = some none)
    (z_all : PySem.W.nsIn K mainGlobals "all" = some none)
    (z_bool : PySem.W.nsIn K mainGlobals "bool" = some none)
    (z_enumerate : PySem.W.nsIn K mainGlobals "enumerate" = some none)
    (z_int : PySem.W.nsIn K mainGlobals "int" = some none)
    (z_isinstance : PySem.W.nsIn K mainGlobals "isinstance" = some none)
    (z_len : PySem.W.nsIn K mainGlobals "len" = some none)
    (z_list : PySem.W.nsIn K mainGlobals "list" = some none)
    (z_range : PySem.W.nsIn K mainGlobals "range" = some none)
    (z_str : PySem.W.nsIn K mainGlobals "str" = some none)
    (z_sum : PySem.W.nsIn K mainGlobals "sum" = some none)
    (z_super : PySem.W.nsIn K mainGlobals "super" = some none)
    (z_tuple : PySem.W.nsIn K mainGlobals "tuple" = some none)
    {f_sup cda_S cc_S : Addr} {oc_S kV_S dc_S pm_S ct_S : Value} {od_S an_S : Option Addr} {sl_S : Array (Option Value)} {co_S ccl_S : Obj} {vs_S : Array Value} {file_S : Str} {tf_S : Tok} {cdD_S : ClassData}
    (lS : K.lookup f_sup = some ⟨oc_S, od_S, .func (PySem.W.ksFn "__init__" "SourceError.__init__" (defArgs s_SourceError___init__) (defBody s_SourceError___init__) (defScope s_SourceError___init__) .none kV_S dc_S pm_S an_S (.ref cda_S) ct_S cc_S), sl_S⟩)
    (cS : PySem.W.codeIn K (.ref cda_S) "SourceError.__init__" = true)
    (lcS : K.lookup cda_S = some co_S)
    (dcS : co_S.data = .fields vs_S)
    (vvS : vs_S[2]? = some (.str file_S tf_S))
    (lxS : K.lookup cc_S = some ccl_S)
    (dxS : ccl_S.data = .cell (some (.ref C_SourceError)))
    (hDS : PySem.W.clsIn K C_SourceError = some cdD_S)
    (tS : PySem.W.typeIn K (.ref f_sup) = some (.type "function"))
    (stS : PySem.W.nsIn K cStatics "thirdparty.any" = some none)
    (pfS : ((l.prog.main.file : Str) == file_S) = true)
    (ptS : (l.prog.main.scope.names.lookup ("super" : Str)).isSome = false)
    {nm_ScanError q_ScanError : Str} {N_ScanError : Addr} {bs_ScanError bm_ScanError su_ScanError : List Value} {sn_ScanError : List Str} {ab_ScanError : Bool} {cl_ScanError : Option Bool} {dd_ScanError : Option Addr} {k0_ScanError k1_ScanError k2_ScanError k3_ScanError k5_ScanError : Option Value}
    (lC_ScanError : K.lookup C_ScanError = some (PySem.excClassObj nm_ScanError q_ScanError C_ScanError N_ScanError bs_ScanError bm_ScanError true sn_ScanError su_ScanError ab_ScanError cl_ScanError dd_ScanError k0_ScanError k1_ScanError k2_ScanError k3_ScanError k5_ScanError "ValueError.__new__"))
    (rC_ScanError : PySem.HandSPX.refsVE bm_ScanError = true)
    (kC_ScanError : PySem.W.keepIn K (.ref C_ScanError) = true)
    (sa_ScanError : PySem.W.findIn K (.ref C_ScanError) "__setattr__" = some (some (.builtin "object.__setattr__")))
    (mC_ScanError : PySem.W.mroIn K C_ScanError (.ref C_SourceError) = some true)
    (uC_ScanError : PySem.W.ks_superIn K C_ScanError C_SourceError "__init__" = some (some (.builtin "ValueError.__init__")))
    (vC_ScanError : PySem.W.subIn K (.ref C_ScanError) (.type "ValueError") = some true)
    (fl_ScanError : PySem.W.findIn K (.ref C_ScanError) "line" = some none)
    (fc_ScanError : PySem.W.findIn K (.ref C_ScanError) "column" = some none)
    (iC_ScanError : PySem.W.findIn K (.ref C_ScanError) "__init__" = some (some (.ref f_sup)))
    (h1_ScanError : PySem.W.findIn K (.ref C_ScanError) "__getattribute__" = some (some (.builtin "BaseException.__getattribute__"))) (h2_ScanError : PySem.W.findIn K (.ref C_ScanError) "__getattr__" = some none) (h3_ScanError : PySem.W.hasDictIn K C_ScanError = true) (h4_ScanError : PySem.W.findIn K (.ref C_ScanError) "__class__" = some (some (.builtin "object.__class__"))) (h5_ScanError : PySem.W.specialIn K (.builtin "object.__class__") "__get__" = some (some (.builtin "getset_descriptor.__get__"))) (h6_ScanError : PySem.W.takesIn K (.builtin "object.__class__") = some true) (h7_ScanError : PySem.W.mroIn K C_ScanError (.type "object") = some true)
    {nm_TooLarge q_TooLarge : Str} {N_TooLarge : Addr} {bs_TooLarge bm_TooLarge su_TooLarge : List Value} {sn_TooLarge : List Str} {ab_TooLarge : Bool} {cl_TooLarge : Option Bool} {dd_TooLarge : Option Addr} {k0_TooLarge k1_TooLarge k2_TooLarge k3_TooLarge k5_TooLarge : Option Value}
    (lC_TooLarge : K.lookup C_TooLarge = some (PySem.excClassObj nm_TooLarge q_TooLarge C_TooLarge N_TooLarge bs_TooLarge bm_TooLarge true sn_TooLarge su_TooLarge ab_TooLarge cl_TooLarge dd_TooLarge k0_TooLarge k1_TooLarge k2_TooLarge k3_TooLarge k5_TooLarge "ValueError.__new__"))
    (rC_TooLarge : PySem.HandSPX.refsVE bm_TooLarge = true)
    (kC_TooLarge : PySem.W.keepIn K (.ref C_TooLarge) = true)
    (sa_TooLarge : PySem.W.findIn K (.ref C_TooLarge) "__setattr__" = some (some (.builtin "object.__setattr__")))
    (mC_TooLarge : PySem.W.mroIn K C_TooLarge (.ref C_SourceError) = some true)
    (uC_TooLarge : PySem.W.ks_superIn K C_TooLarge C_SourceError "__init__" = some (some (.builtin "ValueError.__init__")))
    (vC_TooLarge : PySem.W.subIn K (.ref C_TooLarge) (.type "ValueError") = some true)
    (fl_TooLarge : PySem.W.findIn K (.ref C_TooLarge) "line" = some none)
    (fc_TooLarge : PySem.W.findIn K (.ref C_TooLarge) "column" = some none)
    (iC_TooLarge : PySem.W.findIn K (.ref C_TooLarge) "__init__" = some (some (.ref f_sup)))
    (h1_TooLarge : PySem.W.findIn K (.ref C_TooLarge) "__getattribute__" = some (some (.builtin "BaseException.__getattribute__"))) (h2_TooLarge : PySem.W.findIn K (.ref C_TooLarge) "__getattr__" = some none) (h3_TooLarge : PySem.W.hasDictIn K C_TooLarge = true) (h4_TooLarge : PySem.W.findIn K (.ref C_TooLarge) "__class__" = some (some (.builtin "object.__class__"))) (h5_TooLarge : PySem.W.specialIn K (.builtin "object.__class__") "__get__" = some (some (.builtin "getset_descriptor.__get__"))) (h6_TooLarge : PySem.W.takesIn K (.builtin "object.__class__") = some true) (h7_TooLarge : PySem.W.mroIn K C_TooLarge (.type "object") = some true) :
    ∃ fd : FuncData, (∀ (s : Shared) (v : Value), BindsTo s fd ⟨[v], []⟩ [("script", v)]) ∧ ∀ base : Heap, K.In base → base.Ns mainGlobals mg → FnOk l.prog w K mg base CX0 13 fa fd ["script"] (spLaw K) := by
  have e := hfa.symm.trans (PySem.W.mg_of X G a_law)
  cases e
  let a : Ad := { f_scan := f_scan, d_scan := PySem.W.fnOf "scan" "scan" (defArgs s_scan) (defBody s_scan) (defScope s_scan) .none kV_scan dc_scan pm_scan an_scan cd_scan ct_scan, f_scan_row := f_scan_row, d_scan_row := PySem.W.fnOf "_scan_row" "_scan_row" (defArgs s_scan_row) (defBody s_scan_row) (defScope s_scan_row) .none kV_scan_row dc_scan_row pm_scan_row an_scan_row cd_scan_row ct_scan_row, f_token_at := f_token_at, d_token_at := PySem.W.fnOf "_token_at" "_token_at" (defArgs s_token_at) (defBody s_token_at) (defScope s_token_at) .none kV_token_at dc_token_at pm_token_at an_token_at cd_token_at ct_token_at, f_word_at := f_word_at, d_word_at := PySem.W.fnOf "_word_at" "_word_at" (defArgs s_word_at) (defBody s_word_at) (defScope s_word_at) .none kV_word_at dc_word_at pm_word_at an_word_at cd_word_at ct_word_at, f_number_at := f_number_at, d_number_at := PySem.W.fnOf "_number_at" "_number_at" (defArgs s_number_at) (defBody s_number_at) (defScope s_number_at) .none kV_number_at dc_number_at pm_number_at an_number_at cd_number_at ct_number_at, f_characters_at := f_characters_at, d_characters_at := PySem.W.fnOf "_characters_at" "_characters_at" (defArgs s_characters_at) (defBody s_characters_at) (defScope s_characters_at) .none kV_characters_at dc_characters_at pm_characters_at an_characters_at cd_characters_at ct_characters_at, f_law_mixed := f_law_mixed, d_law_mixed := PySem.W.fnOf "_law_mixed" "_law_mixed" (defArgs s_law_mixed) (defBody s_law_mixed) (defScope s_law_mixed) .none kV_law_mixed dc_law_mixed pm_law_mixed an_law_mixed cd_law_mixed ct_law_mixed, f_law_state := f_law_state, d_law_state := PySem.W.fnOf "_law_state" "_law_state" (defArgs s_law_state) (defBody s_law_state) (defScope s_law_state) .none kV_law_state dc_law_state pm_law_state an_law_state cd_law_state ct_law_state, f_law_draw := f_law_draw, d_law_draw := PySem.W.fnOf "_law_draw" "_law_draw" (defArgs s_law_draw) (defBody s_law_draw) (defScope s_law_draw) .none kV_law_draw dc_law_draw pm_law_draw an_law_draw cd_law_draw ct_law_draw, f_law_reserved := f_law_reserved, d_law_reserved := PySem.W.fnOf "_law_reserved" "_law_reserved" (defArgs s_law_reserved) (defBody s_law_reserved) (defScope s_law_reserved) .none kV_law_reserved dc_law_reserved pm_law_reserved an_law_reserved cd_law_reserved ct_law_reserved, f_law_char := f_law_char, d_law_char := PySem.W.fnOf "_law_char" "_law_char" (defArgs s_law_char) (defBody s_law_char) (defScope s_law_char) .none kV_law_char dc_law_char pm_law_char an_law_char cd_law_char ct_law_char, f_law_name := f_law_name, d_law_name := PySem.W.fnOf "_law_name" "_law_name" (defArgs s_law_name) (defBody s_law_name) (defScope s_law_name) .none kV_law_name dc_law_name pm_law_name an_law_name cd_law_name ct_law_name, f_law_number := f_law_number, d_law_number := PySem.W.fnOf "_law_number" "_law_number" (defArgs s_law_number) (defBody s_law_number) (defScope s_law_number) .none kV_law_number dc_law_number pm_law_number an_law_number cd_law_number ct_law_number, f_law_digits := f_law_digits, d_law_digits := PySem.W.fnOf "_law_digits" "_law_digits" (defArgs s_law_digits) (defBody s_law_digits) (defScope s_law_digits) .none kV_law_digits dc_law_digits pm_law_digits an_law_digits cd_law_digits ct_law_digits, f_law_gap := f_law_gap, d_law_gap := PySem.W.fnOf "_law_gap" "_law_gap" (defArgs s_law_gap) (defBody s_law_gap) (defScope s_law_gap) .none kV_law_gap dc_law_gap pm_law_gap an_law_gap cd_law_gap ct_law_gap, f_law_layout := f_law_layout, d_law_layout := PySem.W.fnOf "_law_layout" "_law_layout" (defArgs s_law_layout) (defBody s_law_layout) (defScope s_law_layout) .none kV_law_layout dc_law_layout pm_law_layout an_law_layout cd_law_layout ct_law_layout, f_law_same := f_law_same, d_law_same := PySem.W.fnOf "_law_same" "_law_same" (defArgs s_law_same) (defBody s_law_same) (defScope s_law_same) .none kV_law_same dc_law_same pm_law_same an_law_same cd_law_same ct_law_same, f_law_token := f_law_token, d_law_token := PySem.W.fnOf "_law_token" "_law_token" (defArgs s_law_token) (defBody s_law_token) (defScope s_law_token) .none kV_law_token dc_law_token pm_law_token an_law_token cd_law_token ct_law_token, f_law := fa, d_law := PySem.W.fnOf "law" "law" (defArgs s_law) (defBody s_law) (defScope s_law) .none kV_law dc_law pm_law an_law cd_law ct_law, t_DIGITS := t_DIGITS, t_GREATEST_NUMBER := t_GREATEST_NUMBER, t_LETTERS := t_LETTERS, t_LONGEST_NAME := t_LONGEST_NAME, t_LONGEST_NUMBER := t_LONGEST_NUMBER, t_LONGEST_TEXT := t_LONGEST_TEXT, c_LONG_SIGNS := c_LONG_SIGNS, t_NAME_CHARACTERS := t_NAME_CHARACTERS, c_RESERVED := c_RESERVED, t_SHORT_SIGNS := t_SHORT_SIGNS, f_sup := f_sup, d_sup := PySem.W.ksFn "__init__" "SourceError.__init__" (defArgs s_SourceError___init__) (defBody s_SourceError___init__) (defScope s_SourceError___init__) .none kV_S dc_S pm_S an_S (.ref cda_S) ct_S cc_S, file := file_S, C_AdaError := C_AdaError, C_SourceError := C_SourceError, C_ScanError := C_ScanError, C_TooLarge := C_TooLarge }
  have T : Txt K mg a := {
    g_scan := PySem.W.mg_of X G a_scan,
    F_scan := fun_mk (st := s_scan) l_scan c_scan k_scan,
    k_scan := k_scan,
    bd_scan := (fun_mk (st := s_scan) l_scan c_scan k_scan).binds (ps := ["text"]) fun _ _ _ _ _ _ us hl => match us, hl with | [_], _ => rfl,
    g__scan_row := PySem.W.mg_of X G a_scan_row,
    F__scan_row := fun_mk (st := s_scan_row) l_scan_row c_scan_row k_scan_row,
    k__scan_row := k_scan_row,
    bd__scan_row := (fun_mk (st := s_scan_row) l_scan_row c_scan_row k_scan_row).binds (ps := ["row", "line"]) fun _ _ _ _ _ _ us hl => match us, hl with | [_, _], _ => rfl,
    g__token_at := PySem.W.mg_of X G a_token_at,
    F__token_at := fun_mk (st := s_token_at) l_token_at c_token_at k_token_at,
    k__token_at := k_token_at,
    bd__token_at := (fun_mk (st := s_token_at) l_token_at c_token_at k_token_at).binds (ps := ["row", "at", "place"]) fun _ _ _ _ _ _ us hl => match us, hl with | [_, _, _], _ => rfl,
    g__word_at := PySem.W.mg_of X G a_word_at,
    F__word_at := fun_mk (st := s_word_at) l_word_at c_word_at k_word_at,
    k__word_at := k_word_at,
    bd__word_at := (fun_mk (st := s_word_at) l_word_at c_word_at k_word_at).binds (ps := ["row", "at", "place"]) fun _ _ _ _ _ _ us hl => match us, hl with | [_, _, _], _ => rfl,
    g__number_at := PySem.W.mg_of X G a_number_at,
    F__number_at := fun_mk (st := s_number_at) l_number_at c_number_at k_number_at,
    k__number_at := k_number_at,
    bd__number_at := (fun_mk (st := s_number_at) l_number_at c_number_at k_number_at).binds (ps := ["row", "at", "place"]) fun _ _ _ _ _ _ us hl => match us, hl with | [_, _, _], _ => rfl,
    g__characters_at := PySem.W.mg_of X G a_characters_at,
    F__characters_at := fun_mk (st := s_characters_at) l_characters_at c_characters_at k_characters_at,
    k__characters_at := k_characters_at,
    bd__characters_at := (fun_mk (st := s_characters_at) l_characters_at c_characters_at k_characters_at).binds (ps := ["row", "at", "allowed"]) fun _ _ _ _ _ _ us hl => match us, hl with | [_, _, _], _ => rfl,
    g__law_mixed := PySem.W.mg_of X G a_law_mixed,
    F__law_mixed := fun_mk (st := s_law_mixed) l_law_mixed c_law_mixed k_law_mixed,
    k__law_mixed := k_law_mixed,
    bd__law_mixed := (fun_mk (st := s_law_mixed) l_law_mixed c_law_mixed k_law_mixed).binds (ps := ["number", "count"]) fun _ _ _ _ _ _ us hl => match us, hl with | [_, _], _ => rfl,
    g__law_state := PySem.W.mg_of X G a_law_state,
    F__law_state := fun_mk (st := s_law_state) l_law_state c_law_state k_law_state,
    k__law_state := k_law_state,
    bd__law_state := (fun_mk (st := s_law_state) l_law_state c_law_state k_law_state).binds (ps := ["script", "budget"]) fun _ _ _ _ _ _ us hl => match us, hl with | [_, _], _ => rfl,
    g__law_draw := PySem.W.mg_of X G a_law_draw,
    F__law_draw := fun_mk (st := s_law_draw) l_law_draw c_law_draw k_law_draw,
    k__law_draw := k_law_draw,
    bd__law_draw := (fun_mk (st := s_law_draw) l_law_draw c_law_draw k_law_draw).binds (ps := ["state", "many"]) fun _ _ _ _ _ _ us hl => match us, hl with | [_, _], _ => rfl,
    g__law_reserved := PySem.W.mg_of X G a_law_reserved,
    F__law_reserved := fun_mk (st := s_law_reserved) l_law_reserved c_law_reserved k_law_reserved,
    k__law_reserved := k_law_reserved,
    bd__law_reserved := (fun_mk (st := s_law_reserved) l_law_reserved c_law_reserved k_law_reserved).binds (ps := []) fun _ _ _ _ _ _ us hl => match us, hl with | [], _ => rfl,
    g__law_char := PySem.W.mg_of X G a_law_char,
    F__law_char := fun_mk (st := s_law_char) l_law_char c_law_char k_law_char,
    k__law_char := k_law_char,
    bd__law_char := (fun_mk (st := s_law_char) l_law_char c_law_char k_law_char).binds (ps := ["state"]) fun _ _ _ _ _ _ us hl => match us, hl with | [_], _ => rfl,
    g__law_name := PySem.W.mg_of X G a_law_name,
    F__law_name := fun_mk (st := s_law_name) l_law_name c_law_name k_law_name,
    k__law_name := k_law_name,
    bd__law_name := (fun_mk (st := s_law_name) l_law_name c_law_name k_law_name).binds (ps := ["state"]) fun _ _ _ _ _ _ us hl => match us, hl with | [_], _ => rfl,
    g__law_number := PySem.W.mg_of X G a_law_number,
    F__law_number := fun_mk (st := s_law_number) l_law_number c_law_number k_law_number,
    k__law_number := k_law_number,
    bd__law_number := (fun_mk (st := s_law_number) l_law_number c_law_number k_law_number).binds (ps := ["state"]) fun _ _ _ _ _ _ us hl => match us, hl with | [_], _ => rfl,
    g__law_digits := PySem.W.mg_of X G a_law_digits,
    F__law_digits := fun_mk (st := s_law_digits) l_law_digits c_law_digits k_law_digits,
    k__law_digits := k_law_digits,
    bd__law_digits := (fun_mk (st := s_law_digits) l_law_digits c_law_digits k_law_digits).binds (ps := ["state", "value"]) fun _ _ _ _ _ _ us hl => match us, hl with | [_, _], _ => rfl,
    g__law_gap := PySem.W.mg_of X G a_law_gap,
    F__law_gap := fun_mk (st := s_law_gap) l_law_gap c_law_gap k_law_gap,
    k__law_gap := k_law_gap,
    bd__law_gap := (fun_mk (st := s_law_gap) l_law_gap c_law_gap k_law_gap).binds (ps := ["state", "before", "after"]) fun _ _ _ _ _ _ us hl => match us, hl with | [_, _, _], _ => rfl,
    g__law_layout := PySem.W.mg_of X G a_law_layout,
    F__law_layout := fun_mk (st := s_law_layout) l_law_layout c_law_layout k_law_layout,
    k__law_layout := k_law_layout,
    bd__law_layout := (fun_mk (st := s_law_layout) l_law_layout c_law_layout k_law_layout).binds (ps := ["state", "pieces"]) fun _ _ _ _ _ _ us hl => match us, hl with | [_, _], _ => rfl,
    g__law_same := PySem.W.mg_of X G a_law_same,
    F__law_same := fun_mk (st := s_law_same) l_law_same c_law_same k_law_same,
    k__law_same := k_law_same,
    bd__law_same := (fun_mk (st := s_law_same) l_law_same c_law_same k_law_same).binds (ps := ["actual", "due"]) fun _ _ _ _ _ _ us hl => match us, hl with | [_, _], _ => rfl,
    g__law_token := PySem.W.mg_of X G a_law_token,
    F__law_token := fun_mk (st := s_law_token) l_law_token c_law_token k_law_token,
    k__law_token := k_law_token,
    bd__law_token := (fun_mk (st := s_law_token) l_law_token c_law_token k_law_token).binds (ps := ["state"]) fun _ _ _ _ _ _ us hl => match us, hl with | [_], _ => rfl,
    g_law := PySem.W.mg_of X G a_law,
    F_law := fun_mk (st := s_law) l_law c_law k_law,
    k_law := k_law,
    bd_law := (fun_mk (st := s_law) l_law c_law k_law).binds (ps := ["script"]) fun _ _ _ _ _ _ us hl => match us, hl with | [_], _ => rfl,
    g_DIGITS := PySem.W.mg_of X G a_DIGITS,
    g_GREATEST_NUMBER := PySem.W.mg_of X G a_GREATEST_NUMBER,
    g_LETTERS := PySem.W.mg_of X G a_LETTERS,
    g_LONGEST_NAME := PySem.W.mg_of X G a_LONGEST_NAME,
    g_LONGEST_NUMBER := PySem.W.mg_of X G a_LONGEST_NUMBER,
    g_LONGEST_TEXT := PySem.W.mg_of X G a_LONGEST_TEXT,
    g_LONG_SIGNS := PySem.W.mg_of X G a_LONG_SIGNS,
    q_LONG_SIGNS := fun H => sqT_of l_LONG_SIGNS q_LONG_SIGNS,
    g_NAME_CHARACTERS := PySem.W.mg_of X G a_NAME_CHARACTERS,
    g_RESERVED := PySem.W.mg_of X G a_RESERVED,
    q_RESERVED := fun H => sqT_of l_RESERVED q_RESERVED,
    g_SHORT_SIGNS := PySem.W.mg_of X G a_SHORT_SIGNS,
    b_abs := PySem.W.mg_none_of X G z_abs,
    b_all := PySem.W.mg_none_of X G z_all,
    b_bool := PySem.W.mg_none_of X G z_bool,
    b_enumerate := PySem.W.mg_none_of X G z_enumerate,
    b_int := PySem.W.mg_none_of X G z_int,
    b_isinstance := PySem.W.mg_none_of X G z_isinstance,
    b_len := PySem.W.mg_none_of X G z_len,
    b_list := PySem.W.mg_none_of X G z_list,
    b_range := PySem.W.mg_none_of X G z_range,
    b_str := PySem.W.mg_none_of X G z_str,
    b_sum := PySem.W.mg_none_of X G z_sum,
    b_super := PySem.W.mg_none_of X G z_super,
    b_tuple := PySem.W.mg_none_of X G z_tuple,
    sup := ⟨_, _, _, _, _, _, _, _, _, _, _, _, _, _, _, rfl, lS, cS, lcS, dcS, vvS, lxS, dxS, hDS⟩,
    tS := tS,
    stS := stS,
    bdS := .all fun us hl => match us, hl with | [_, _, _], _ => rfl,
    g_AdaError := PySem.W.mg_of X G aC_AdaError,
    s1_AdaError := s1_AdaError,
    ty_AdaError := ty_AdaError,
    ic_AdaError := ic_AdaError,
    g_SourceError := PySem.W.mg_of X G aC_SourceError,
    s1_SourceError := s1_SourceError,
    ty_SourceError := ty_SourceError,
    ic_SourceError := ic_SourceError,
    g_ScanError := PySem.W.mg_of X G aC_ScanError,
    s1_ScanError := s1_ScanError,
    ty_ScanError := ty_ScanError,
    ic_ScanError := ic_ScanError,
    ox_ScanError := ⟨⟨⟨_, _, _, _, _, _, _, _, _, _, _, _, _, _, _, lC_ScanError, rC_ScanError⟩, sa_ScanError, s1_ScanError, ty_ScanError, kC_ScanError⟩, mC_ScanError, uC_ScanError, vC_ScanError, fl_ScanError, fc_ScanError⟩,
    iC_ScanError := iC_ScanError,
    ec_ScanError := ⟨h1_ScanError, h2_ScanError, s1_ScanError, h3_ScanError, h4_ScanError, h5_ScanError, h6_ScanError, h7_ScanError⟩,
    xf_ScanError := ⟨h1_ScanError, h2_ScanError, s1_ScanError, h3_ScanError⟩,
    g_TooLarge := PySem.W.mg_of X G aC_TooLarge,
    s1_TooLarge := s1_TooLarge,
    ty_TooLarge := ty_TooLarge,
    ic_TooLarge := ic_TooLarge,
    ox_TooLarge := ⟨⟨⟨_, _, _, _, _, _, _, _, _, _, _, _, _, _, _, lC_TooLarge, rC_TooLarge⟩, sa_TooLarge, s1_TooLarge, ty_TooLarge, kC_TooLarge⟩, mC_TooLarge, uC_TooLarge, vC_TooLarge, fl_TooLarge, fc_TooLarge⟩,
    iC_TooLarge := iC_TooLarge,
    ec_TooLarge := ⟨h1_TooLarge, h2_TooLarge, s1_TooLarge, h3_TooLarge, h4_TooLarge, h5_TooLarge, h6_TooLarge, h7_TooLarge⟩,
    xf_TooLarge := ⟨h1_TooLarge, h2_TooLarge, s1_TooLarge, h3_TooLarge⟩ }
  exact ⟨a.d_law, fun s v => .of_eq rfl, fun base _ _ => ok_law T ⟨pfS, ptS⟩⟩
theorem walk {l : PySem.W.OpenLaw} {q : Program} {loose : List Str} {XP : (Str → Option Value) → Heap → Prop} {YP : World → Heap → Prop} {d : DefRec} {K : Params → PySem.W.Frag} (hn : l.most = some 63) (hdf : d.params.defaults = [])
    (hY : ∀ (w : World) (h : Heap), YP w h → (K w.params).In h)
    (F : ∀ (w : World) (mg : Str → Option Value) (fa : Addr) (h : Heap), (K w.params).In h → h.Ns mainGlobals mg → mg d.name = some (.ref fa) →
      ∃ fd : FuncData, (∀ (s : Shared) (u : Value), BindsTo s fd ⟨[u], []⟩ [("script", u)]) ∧ ∀ base : Heap, (K w.params).In base → base.Ns mainGlobals mg → FnOk l.prog w (K w.params) mg base CX0 13 fa fd ["script"] (spLaw (K w.params))) :
    PySem.W.WalkO q loose XP YP l.row.toRowW d [] (fun f vs => PySem.call f vs) :=
  L2.walk_of (n := 63) (k := 13) (x := "script") (CX := fun _ => CX0) (sp := fun w => spLaw (K w.params)) hn (by decide) hdf ⟨rfl, by decide, by decide⟩ hY F (fun _ _ a ns hl _ hS => ⟨a, ns, rfl, hS, hl, fun _ => rfl⟩) fun _ _ _ _ _ z => z

end My
open PySem PySem.W PyProof.Rows
set_option maxRecDepth 100000 in
set_option maxHeartbeats 0 in
theorem PySem.Challenge.cw_windowada_k00_tokens_with_places_holds : PySem.Challenge.rw_windowada_k00_tokens_with_places.Holds := by
  w_on; o_law; k_head; (case hw => w_witness2)
  k_fill
  refine My.walk (l := PySem.Challenge.rw_windowada_k00_tokens_with_places) rfl rfl (fun w h Y => PySem.W.kIn_of Y) ?F
  case F =>
    intro w mg fa h KX G hmg
    refine' My.all_mk KX G hmg ?aC_AdaError ?s1_AdaError ?ty_AdaError ?ic_AdaError ?aC_SourceError ?s1_SourceError ?ty_SourceError ?ic_SourceError ?aC_ScanError ?s1_ScanError ?ty_ScanError ?ic_ScanError ?aC_TooLarge ?s1_TooLarge ?ty_TooLarge ?ic_TooLarge ?a_scan ?l_scan ?c_scan ?k_scan ?a_scan_row ?l_scan_row ?c_scan_row ?k_scan_row ?a_token_at ?l_token_at ?c_token_at ?k_token_at ?a_word_at ?l_word_at ?c_word_at ?k_word_at ?a_number_at ?l_number_at ?c_number_at ?k_number_at ?a_characters_at ?l_characters_at ?c_characters_at ?k_characters_at ?a_law_mixed ?l_law_mixed ?c_law_mixed ?k_law_mixed ?a_law_state ?l_law_state ?c_law_state ?k_law_state ?a_law_draw ?l_law_draw ?c_law_draw ?k_law_draw ?a_law_reserved ?l_law_reserved ?c_law_reserved ?k_law_reserved ?a_law_char ?l_law_char ?c_law_char ?k_law_char ?a_law_name ?l_law_name ?c_law_name ?k_law_name ?a_law_number ?l_law_number ?c_law_number ?k_law_number ?a_law_digits ?l_law_digits ?c_law_digits ?k_law_digits ?a_law_gap ?l_law_gap ?c_law_gap ?k_law_gap ?a_law_layout ?l_law_layout ?c_law_layout ?k_law_layout ?a_law_same ?l_law_same ?c_law_same ?k_law_same ?a_law_token ?l_law_token ?c_law_token ?k_law_token ?a_law ?l_law ?c_law ?k_law ?a_DIGITS ?a_GREATEST_NUMBER ?a_LETTERS ?a_LONGEST_NAME ?a_LONGEST_NUMBER ?a_LONGEST_TEXT ?a_LONG_SIGNS ?l_LONG_SIGNS ?q_LONG_SIGNS ?a_NAME_CHARACTERS ?a_RESERVED ?l_RESERVED ?q_RESERVED ?a_SHORT_SIGNS ?z_abs ?z_all ?z_bool ?z_enumerate ?z_int ?z_isinstance ?z_len ?z_list ?z_range ?z_str ?z_sum ?z_super ?z_tuple ?lS ?cS ?lcS ?dcS ?vvS ?lxS ?dxS ?hDS ?tS ?stS ?pfS ?ptS ?lC_ScanError ?rC_ScanError ?kC_ScanError ?sa_ScanError ?mC_ScanError ?uC_ScanError ?vC_ScanError ?fl_ScanError ?fc_ScanError ?iC_ScanError ?h1_ScanError ?h2_ScanError ?h3_ScanError ?h4_ScanError ?h5_ScanError ?h6_ScanError ?h7_ScanError ?lC_TooLarge ?rC_TooLarge ?kC_TooLarge ?sa_TooLarge ?mC_TooLarge ?uC_TooLarge ?vC_TooLarge ?fl_TooLarge ?fc_TooLarge ?iC_TooLarge ?h1_TooLarge ?h2_TooLarge ?h3_TooLarge ?h4_TooLarge ?h5_TooLarge ?h6_TooLarge ?h7_TooLarge
    (case aC_AdaError => k_is)
    (case s1_AdaError => k_is)
    (case ty_AdaError => k_is)
    (case ic_AdaError => k_is)
    (case aC_SourceError => k_is)
    (case s1_SourceError => k_is)
    (case ty_SourceError => k_is)
    (case ic_SourceError => k_is)
    (case aC_ScanError => k_is)
    (case s1_ScanError => k_is)
    (case ty_ScanError => k_is)
    (case ic_ScanError => k_is)
    (case aC_TooLarge => k_is)
    (case s1_TooLarge => k_is)
    (case ty_TooLarge => k_is)
    (case ic_TooLarge => k_is)
    (case iC_ScanError => k_is)
    (case iC_TooLarge => k_is)
    (case a_scan => k_is)
    (case l_scan => k_is)
    (case c_scan => k_is)
    (case k_scan => k_is)
    (case a_scan_row => k_is)
    (case l_scan_row => k_is)
    (case c_scan_row => k_is)
    (case k_scan_row => k_is)
    (case a_token_at => k_is)
    (case l_token_at => k_is)
    (case c_token_at => k_is)
    (case k_token_at => k_is)
    (case a_word_at => k_is)
    (case l_word_at => k_is)
    (case c_word_at => k_is)
    (case k_word_at => k_is)
    (case a_number_at => k_is)
    (case l_number_at => k_is)
    (case c_number_at => k_is)
    (case k_number_at => k_is)
    (case a_characters_at => k_is)
    (case l_characters_at => k_is)
    (case c_characters_at => k_is)
    (case k_characters_at => k_is)
    (case a_law_mixed => k_is)
    (case l_law_mixed => k_is)
    (case c_law_mixed => k_is)
    (case k_law_mixed => k_is)
    (case a_law_state => k_is)
    (case l_law_state => k_is)
    (case c_law_state => k_is)
    (case k_law_state => k_is)
    (case a_law_draw => k_is)
    (case l_law_draw => k_is)
    (case c_law_draw => k_is)
    (case k_law_draw => k_is)
    (case a_law_reserved => k_is)
    (case l_law_reserved => k_is)
    (case c_law_reserved => k_is)
    (case k_law_reserved => k_is)
    (case a_law_char => k_is)
    (case l_law_char => k_is)
    (case c_law_char => k_is)
    (case k_law_char => k_is)
    (case a_law_name => k_is)
    (case l_law_name => k_is)
    (case c_law_name => k_is)
    (case k_law_name => k_is)
    (case a_law_number => k_is)
    (case l_law_number => k_is)
    (case c_law_number => k_is)
    (case k_law_number => k_is)
    (case a_law_digits => k_is)
    (case l_law_digits => k_is)
    (case c_law_digits => k_is)
    (case k_law_digits => k_is)
    (case a_law_gap => k_is)
    (case l_law_gap => k_is)
    (case c_law_gap => k_is)
    (case k_law_gap => k_is)
    (case a_law_layout => k_is)
    (case l_law_layout => k_is)
    (case c_law_layout => k_is)
    (case k_law_layout => k_is)
    (case a_law_same => k_is)
    (case l_law_same => k_is)
    (case c_law_same => k_is)
    (case k_law_same => k_is)
    (case a_law_token => k_is)
    (case l_law_token => k_is)
    (case c_law_token => k_is)
    (case k_law_token => k_is)
    (case a_law => k_is)
    (case l_law => k_is)
    (case c_law => k_is)
    (case k_law => k_is)
    (case a_DIGITS => k_is)
    (case a_GREATEST_NUMBER => k_is)
    (case a_LETTERS => k_is)
    (case a_LONGEST_NAME => k_is)
    (case a_LONGEST_NUMBER => k_is)
    (case a_LONGEST_TEXT => k_is)
    (case a_LONG_SIGNS => k_is)
    (case l_LONG_SIGNS => k_is)
    (case q_LONG_SIGNS => refine ⟨rfl, _, _, rfl, by decide, ?_⟩; repeat (first | exact .nil | refine .cons ⟨_, rfl⟩ ?_))
    (case a_NAME_CHARACTERS => k_is)
    (case a_RESERVED => k_is)
    (case l_RESERVED => k_is)
    (case q_RESERVED => refine ⟨rfl, _, _, rfl, by decide, ?_⟩; repeat (first | exact .nil | refine .cons ⟨_, rfl⟩ ?_))
    (case a_SHORT_SIGNS => k_is)
    (case z_abs => k_is)
    (case z_all => k_is)
    (case z_bool => k_is)
    (case z_enumerate => k_is)
    (case z_int => k_is)
    (case z_isinstance => k_is)
    (case z_len => k_is)
    (case z_list => k_is)
    (case z_range => k_is)
    (case z_str => k_is)
    (case z_sum => k_is)
    (case z_super => k_is)
    (case z_tuple => k_is)
    (case lS => k_is)
    (case cS => k_is)
    (case lcS => k_is)
    (case dcS => first | rfl | decide +kernel)
    (case vvS => first | rfl | decide +kernel)
    (case lxS => k_is)
    (case dxS => first | rfl | decide +kernel)
    (case hDS => k_is)
    (case tS => k_is)
    (case stS => k_is)
    (case pfS => first | rfl | decide +kernel)
    (case ptS => first | rfl | decide +kernel)
    (case lC_ScanError => k_is)
    (case rC_ScanError => first | rfl | decide +kernel)
    (case kC_ScanError => k_is)
    (case sa_ScanError => k_is)
    (case mC_ScanError => k_is)
    (case uC_ScanError => first | ks_is | k_is)
    (case vC_ScanError => k_is)
    (case fl_ScanError => k_is)
    (case fc_ScanError => k_is)
    (case h1_ScanError => k_is)
    (case h2_ScanError => k_is)
    (case h3_ScanError => k_is)
    (case h4_ScanError => k_is)
    (case h5_ScanError => k_is)
    (case h6_ScanError => k_is)
    (case h7_ScanError => k_is)
    (case lC_TooLarge => k_is)
    (case rC_TooLarge => first | rfl | decide +kernel)
    (case kC_TooLarge => k_is)
    (case sa_TooLarge => k_is)
    (case mC_TooLarge => k_is)
    (case uC_TooLarge => first | ks_is | k_is)
    (case vC_TooLarge => k_is)
    (case fl_TooLarge => k_is)
    (case fc_TooLarge => k_is)
    (case h1_TooLarge => k_is)
    (case h2_TooLarge => k_is)
    (case h3_TooLarge => k_is)
    (case h4_TooLarge => k_is)
    (case h5_TooLarge => k_is)
    (case h6_TooLarge => k_is)
    (case h7_TooLarge => k_is)

