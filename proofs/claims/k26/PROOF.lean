import PyProof.Rows.All
import Wide.All
import OpenK.AllK
import Wide.FinOn
import KE.KStateDown
import HandS.Head0
import HandS.Head1
import HandS.Head2
import HandS.HeadEnd
import HandS.HeadHook1
import HandS.HeadHook2
import HandS.HeadHook3
import Wide.Once
import HandS.ForMost
import HandS.Evl
import HandS.Style
import HandS.Conv
import HandS.WideBits
import HandS.ForExc
import HandS.IsInst
import HandS.ExcIs
import HandS.Strs
import HandS.Deep
import KE.KExcIs
import HandS.Defaults
import HandS.ExcInit
import HandS.ClsMeth
import HandS.More
import HandS.WrittenGet
import HandS.Zip
import HandS.Walk
import HandS.Flow
import HandS.TupAny
import PyProof.Rows.SortShellAny
import HandS.HotCalls
import HandS.ExcCtx
import HandS.TryOnly
import HandS.Text
import PyProof.StrOps2
import HandS.Iter
import PyProof.Draws
import PyProof.EnumMake
import KE.KRevSl
import KE.KStrOpen
import KE.KxWritten
import HandS.StrMore
import HandS.Codes
import HandS.FStr
import HandS.RaiseMore
import HandS.ReplaceLit
import HandS.ReplaceList
import PyProof.ToksMono
import HandS.SetTxt0
import PySem.Challenge.RW_sandreckoner_k26_formulas_read
set_option Elab.async false
set_option linter.all false
set_option maxRecDepth 100000
set_option maxHeartbeats 4000000
set_option Elab.async false
set_option linter.all false
set_option maxRecDepth 100000
set_option maxHeartbeats 2000000
namespace Sk
open PySem L2 Evl
abbrev VP := V → Hp → Prop
/-- an expression that evaluates to something of R, the heap growing -/
def ER (te : TE) (σ : L2.St) (H : Hp) (R : VP) : Prop := ∀ H1, Ex H H1 → ∀ Q : VK, (∀ v H2, Ex H1 H2 → R v H2 → Q v H2) → te σ H1 Q
def EA (ta : TA) (σ : L2.St) (H : Hp) (R : List V → Hp → Prop) : Prop := ∀ H1, Ex H H1 → ∀ Q : List V → Hp → Prop, (∀ v H2, Ex H1 H2 → R v H2 → Q v H2) → ta σ H1 Q
/-- a call's promise: handed vs it gives something of R -/
def SR (sp : Sp) (vs : List V) (H : Hp) (R : VP) : Prop := ∀ (Q : VK) (E : XK), (∀ v H2, Ex H H2 → R v H2 → Q v H2) → sp vs H Q E
def Mono (R : VP) : Prop := ∀ v H H', Ex H H' → R v H → R v H'
def MonoL (R : List V → Hp → Prop) : Prop := ∀ v H H', Ex H H' → R v H → R v H'
section
variable {K : PySem.W.Frag} {σ : L2.St} {H H' : Hp} {te tl : TE} {ta tr : TA} {v : V} {R R' : VP} {D : Ends} {tz : TS} {i : Nat}
theorem ER.imp (h : ER te σ H R) (k : ∀ v H2, Ex H H2 → R v H2 → R' v H2) : ER te σ H R' := fun H1 e Q q => h H1 e Q fun v H2 e2 r => q v H2 e2 (k v H2 (e.trans e2) r)
theorem ER.mono (e : Ex H H') (h : ER te σ H R) : ER te σ H' R := fun H1 e1 Q q => h H1 (e.trans e1) Q q
theorem er_ev (h : Ev te σ H v) (hR : ∀ H1, Ex H H1 → R v H1) : ER te σ H R := fun H1 e Q q => h H1 e Q fun H2 e2 => q v H2 e2 (hR H2 (e.trans e2))
theorem er_is (h : Ev te σ H v) : ER te σ H (fun w _ => w = v) := er_ev h fun _ _ => rfl
theorem ev_er (h : ER te σ H (fun w _ => w = v)) : Ev te σ H v := fun H1 e Q q => h H1 e Q fun w H2 e2 r => by subst r; exact q H2 e2
theorem er_var (h : σ[i]? = some (some v)) (hR : ∀ H1, Ex H H1 → R v H1) : ER (tVar i) σ H R := er_ev (ev_var h) hR
theorem ea_nil' : EA tNil σ H (fun vs _ => vs = []) := fun H1 _ Q q => q [] H1 (Ex.refl H1) rfl
theorem ea_cons' {R1 : VP} {R2 : List V → Hp → Prop} (h : ER te σ H R1) (m : Mono R1) (hr : EA tr σ H R2) : EA (tCons te tr) σ H (fun vs H2 => ∃ v r, vs = v :: r ∧ R1 v H2 ∧ R2 r H2) := fun H1 e Q q =>
  h H1 e _ fun v H2 e2 r1 => hr H2 (e.trans e2) _ fun r H3 e3 r2 => q _ H3 (e2.trans e3) ⟨v, r, rfl, m v H2 H3 e3 r1, r2⟩
theorem ea_imp {R1 R2 : List V → Hp → Prop} (h : EA ta σ H R1) (k : ∀ v H2, Ex H H2 → R1 v H2 → R2 v H2) : EA ta σ H R2 := fun H1 e Q q => h H1 e Q fun v H2 e2 r => q v H2 e2 (k v H2 (e.trans e2) r)
theorem ea_ev {vs : List V} (h : EvA ta σ H vs) : EA ta σ H (fun ws _ => ws = vs) := fun H1 e Q q => h H1 e Q fun H2 e2 => q vs H2 e2 rfl
theorem ea_one (h : ER te σ H R) (m : Mono R) : EA (tCons te tNil) σ H (fun vs H2 => ∃ v, vs = [v] ∧ R v H2) := ea_imp (ea_cons' h m ea_nil') fun vs H2 _ ⟨v, r, e1, r1, e2⟩ => ⟨v, by rw [e1, e2], r1⟩
theorem ea_two {te' : TE} (h : ER te σ H R) (m : Mono R) (h' : ER te' σ H R') (m' : Mono R') : EA (tCons te (tCons te' tNil)) σ H (fun vs H2 => ∃ v w, vs = [v, w] ∧ R v H2 ∧ R' w H2) :=
  ea_imp (ea_cons' h m (ea_one h' m')) fun vs H2 _ ⟨v, r, e1, r1, w, e2, r2⟩ => ⟨v, w, by rw [e1, e2], r1, r2⟩
theorem ea_three {te' te'' : TE} {R'' : VP} (h : ER te σ H R) (m : Mono R) (h' : ER te' σ H R') (m' : Mono R') (h'' : ER te'' σ H R'') (m'' : Mono R'') : EA (tCons te (tCons te' (tCons te'' tNil))) σ H (fun vs H2 => ∃ v w z, vs = [v, w, z] ∧ R v H2 ∧ R' w H2 ∧ R'' z H2) :=
  ea_imp (ea_cons' h m (ea_two h' m' h'' m'')) fun vs H2 _ ⟨v, r, e1, r1, w, z, e2, r2, r3⟩ => ⟨v, w, z, by rw [e1, e2], r1, r2, r3⟩
theorem er_call {sp : Sp} {E : XK} {RA : List V → Hp → Prop} (h : EA ta σ H RA) (k : ∀ vs H1, Ex H H1 → RA vs H1 → SR sp vs H1 R) : ER (tCall sp [] E ta) σ H R := fun H1 e Q q =>
  h H1 e _ fun vs H2 e2 r => by
    show sp (vs ++ []) H2 Q E
    rw [List.append_nil]
    exact k vs H2 (e.trans e2) r Q E fun v H3 e3 rv => q v H3 (e2.trans e3) rv
/-- a tuple is made -/
theorem er_tup {RA : List V → Hp → Prop} (h : EA ta σ H RA) (m : MonoL RA) (hz : ∀ vs H2, RA vs H2 → vs.length ≤ 100000) : ER (tTup ta) σ H (fun v H2 => ∃ p vs, v = .ref p ∧ H2 p = some (.tup vs) ∧ RA vs H2) := fun H1 e Q q =>
  h H1 e _ fun vs H2 e2 r => ⟨sz_of (hz vs H2 r), fun p hp => q _ _ (e2.trans (Ex.new hp)) ⟨p, vs, rfl, upd_same, m vs H2 _ (Ex.new hp) r⟩⟩
theorem er_lst {RA : List V → Hp → Prop} (h : EA ta σ H RA) (m : MonoL RA) (hz : ∀ vs H2, RA vs H2 → vs.length ≤ 100000) : ER (tLst ta) σ H (fun v H2 => ∃ p vs, v = .ref p ∧ H p = none ∧ H2 p = some (.lst vs) ∧ RA vs H2) := fun H1 e Q q =>
  h H1 e _ fun vs H2 e2 r => ⟨sz_of (hz vs H2 r), fun p hp => q _ _ (e2.trans (Ex.new hp)) ⟨p, vs, rfl, fresh_back e (fresh_back e2 hp), upd_same, m vs H2 _ (Ex.new hp) r⟩⟩
/-- statements -/
theorem s_asgR (h : ER te σ H R) (k : ∀ v H1, Ex H H1 → R v H1 → D.nx (σ.set i (some v)) H1) : tAsg te (gName i) D σ H := h H (Ex.refl H) _ fun v H1 e r => k v H1 e r
theorem q_asgR (h : ER te σ H R) (k : ∀ v H1, Ex H H1 → R v H1 → tz D (σ.set i (some v)) H1) : tSeq (tAsg te (gName i)) tz D σ H := s_asgR (D := { D with nx := tz D }) h k
theorem s_retR (h : ER te σ H R) (k : ∀ v H1, Ex H H1 → R v H1 → D.rt v H1) : tRet te D σ H := h H (Ex.refl H) _ fun v H1 e r => k v H1 e r
/-- (u, w) unpacked into two names -/
theorem g_pair {a : Addr} {u w : V} {i j : Nat} {Q : L2.St → Hp → Prop} (h : SqT K H a [u, w]) (q : Q ((σ.set i (some u)).set j (some w)) H) : gTup K 2 (gCons (gName i) (gCons (gName j) gNil)) (.ref a) σ H Q :=
  ⟨a, [u, w], rfl, h, rfl, u, [w], rfl, w, [], rfl, rfl, q⟩
/-- unpacking as a statement: a, b = e -/
theorem q_unpack2 {j : Nat} (h : ER te σ H R) (hR : ∀ v H1, Ex H H1 → R v H1 → ∃ a x y, v = .ref a ∧ SqT K H1 a [x, y] ∧ tz D ((σ.set i (some x)).set j (some y)) H1) :
    tSeq (tAsg te (gTup K 2 (gCons (gName i) (gCons (gName j) gNil)))) tz D σ H := h H (Ex.refl H) _ fun v H1 e r => by
  obtain ⟨a, x, y, rfl, hs, q⟩ := hR v H1 e r
  exact g_pair (Q := fun σ' H' => tz D σ' H') hs q
theorem len_snoc {α : Type} {P : Nat → α → Prop} {ys : List α} {y : α} (h : ∀ j z, ys[j]? = some z → P j z) (hy : P ys.length y) : ∀ j z, (ys ++ [y])[j]? = some z → P j z := fun j z hz => by
  rcases Nat.lt_trichotomy j ys.length with hj | hj | hj
  · rw [List.getElem?_append_left hj] at hz; exact h j z hz
  · subst hj; rw [List.getElem?_append_right (Nat.le_refl _), Nat.sub_self] at hz; cases hz; exact hy
  · rw [List.getElem?_append_right (Nat.le_of_lt hj)] at hz
    have : j - ys.length ≠ 0 := by omega
    cases hq : j - ys.length with
    | zero => exact absurd hq this
    | succ n => rw [hq] at hz; cases hz
/-- the tuples (and what is frozen) stay -/
def TEx (H H' : Hp) : Prop := ∀ a o, H a = some o → (match o with | .tup _ => True | .frz _ _ => True | _ => False) → H' a = some o
theorem Ex.t (e : Ex H H') : TEx H H' := fun a o h _ => e a o h
theorem TEx.refl (H : Hp) : TEx H H := fun _ _ h _ => h
theorem TEx.trans {H1 H2 H3 : Hp} (a : TEx H1 H2) (b : TEx H2 H3) : TEx H1 H3 := fun x o h c => b x o (a x o h c) c
theorem TEx.put {l : Addr} {xs ys : List V} (h : H l = some (.lst xs)) : TEx H (upd H l (.lst ys)) := fun a o e c => by
  by_cases hb : a = l
  · subst hb; rw [h] at e; cases e; exact c.elim
  · rw [upd_ne hb]; exact e
def MonoT (R : VP) : Prop := ∀ v H H', TEx H H' → R v H → R v H'
theorem MonoT.mono (m : MonoT R) : Mono R := fun v H H' e r => m v H H' (Ex.t e) r
theorem tex_sqt {a : Addr} {xs : List V} (e : TEx H H') (h : SqT K H a xs) : SqT K H' a xs := by
  rcases h with (h | ⟨o, h⟩) | h
  · exact .inl (.inl (e _ _ h trivial))
  · exact .inl (.inr ⟨o, e _ _ h trivial⟩)
  · exact .inr h
/-- what a comprehension has made behind i turns -/
def Made (H : Hp) (Dl : Addr) (Ri : Nat → VP) (i : Nat) (H' : Hp) : Prop := H Dl = none ∧ Ex H H' ∧ ∃ ys : List V, H' Dl = some (.lst ys) ∧ ys.length = i ∧ ∀ j y, ys[j]? = some y → Ri j y H'
theorem Made.turn {Dl : Addr} {Ri : Nat → VP} {i : Nat} {H2 : Hp} {y : V} (m : ∀ i, MonoT (Ri i)) (M : Made H Dl Ri i H') (hi : i < 100000) (e : Ex H' H2) (r : Ri i y H2) :
    ∃ acc, H2 Dl = some (.lst acc) ∧ acc.length < sizeLine ∧ Made H Dl Ri (i + 1) (upd H2 Dl (.lst (acc ++ [y]))) := by
  obtain ⟨h1, h2, ys, h3, h4, h5⟩ := M
  have t : TEx H2 (upd H2 Dl (.lst (ys ++ [y]))) := TEx.put (e Dl _ h3)
  refine ⟨ys, e Dl _ h3, sz_lt (by omega), h1, Ex.mut (h2.trans e) h1, ys ++ [y], upd_same, by rw [List.length_append, h4]; rfl, ?_⟩
  refine len_snoc (fun j z hz => m j z _ _ ((Ex.t e).trans t) (h5 j z hz)) ?_
  rw [h4]
  exact m i y _ _ t r
/-- the list that a comprehension gives: H the heap ahead -/
def LcR (S : List V → Hp → Prop) (R : List V → Nat → VP) (H : Hp) : VP := fun v H2 => ∃ p xs ys, v = .ref p ∧ H p = none ∧ H2 p = some (.lst ys) ∧ S xs H2 ∧ ys.length = xs.length ∧ ∀ (j : Nat) (y : V), ys[j]? = some y → R xs j y H2
theorem er_lcT {g : TG} {vs : List Nat} {S : List V → Hp → Prop} {R : List V → Nat → VP} (hsrc : ER tl σ H (fun v H2 => ∃ a xs, v = .ref a ∧ SqT K H2 a xs ∧ S xs H2)) (mS : MonoL S) (hz : ∀ xs H2, S xs H2 → xs.length < 100000) (m : ∀ xs i, MonoT (R xs i))
    (hb : ∀ xs i x H1, xs[i]? = some x → Ex H H1 → S xs H1 → ∀ Qk : VK, (∀ v H2, Ex H1 H2 → R xs i v H2 → Qk v H2) → g x (wipe σ vs) H1 fun σ2 H2 => wipe σ2 vs = wipe σ vs ∧ te σ2 H2 Qk) :
    ER (tLc (iTup K tl) g tYes te vs) σ H (LcR S R H) := fun H0 e0 Q q => hsrc H0 e0 _ fun v H1 e1 ⟨a, xs, hv, ha, hS⟩ => ⟨a, hv, ⟨xs, ha⟩, fun Dl hD =>
  lc_tup (xs := xs) (Made H1 Dl (R xs)) ⟨hD, Ex.new hD, [], upd_same, rfl, fun j y h => by simp at h⟩ (fun i H' _ p => ex_t p.2.1 ha)
    (fun i x H' hi M => hb xs i x H' hi ((e0.trans e1).trans M.2.1) (mS xs _ _ M.2.1 hS) _ fun y H2 e2 r => M.turn (m xs) (by have := (List.getElem?_eq_some_iff.mp hi).1; have := hz xs _ hS; omega) e2 r)
    (fun H' M => by
      obtain ⟨h1, h2, ys, h3, h4, h5⟩ := M
      exact q _ H' (e1.trans h2) ⟨Dl, xs, ys, rfl, fresh_back (e0.trans e1) h1, h3, mS xs _ _ h2 hS, h4, h5⟩)⟩
end
end Sk
set_option Elab.async false
set_option linter.all false
set_option maxRecDepth 100000
set_option maxHeartbeats 2000000
namespace Sk
open PySem L2 Evl
def xAdd : R2 := rI0 fun i j => .int (i + j)
def xSub : R2 := rI0 fun i j => .int (i - j)
def xMul : R2 := rI CMul fun i j => .int (i * j)
def xMod : R2 := rI (fun _ j => 0 < j) fun i j => .int (i % j)
def xFdiv : R2 := rI CDiv fun i j => .int (i / j)
def xPow : R2 := rI CPow fun i j => .int (i ^ j.toNat)
def xLt : R2 := rI0 fun i j => .bl (decide (i < j))
def xLe : R2 := rI0 fun i j => .bl (decide (i ≤ j))
def xGt : R2 := rI0 fun i j => .bl (decide (j < i))
def xGe : R2 := rI0 fun i j => .bl (decide (j ≤ i))
def xInt1 : List V → Hp → VK → Prop := fun xs H Q => (∃ i, xs = [.int i] ∧ Q (.int i) H) ∨ ∃ k, xs = [.bl k] ∧ Q (.int (if k then 1 else 0)) H
def xAbs : List V → Hp → VK → Prop := fun xs H Q => ∃ i, xs = [.int i] ∧ Q (.int (if i < 0 then -i else i)) H
def tTruK (K : PySem.W.Frag) (ta : TE) : TT := fun σ H Q => ta σ H fun x H' => ∃ k, TruV K x H' k ∧ Q k H'
theorem hu64 {A : Around} {k : Nat} (hr : Room k A) : A.units + 64 < cLine := by have := hr.un; omega
/-- a def of the module, where it stands -/
structure DefAt (K : PySem.W.Frag) (mg : Str → Option Value) (x : Str) (st : Stmt) (ps : List Str) (f : Addr) (fd : FuncData) : Prop where
  fn : Fun K x x st f fd
  m : mg x = some (.ref f)
  b : Binds K fd ps []
/-- an own error class, where it stands -/
structure ClsAt (K : PySem.W.Frag) (mg : Str → Option Value) (x : Str) (C : Addr) : Prop where
  m : mg x = some (.ref C)
  k : PySem.W.keepIn K (.ref C) = true
  sb : PySem.W.subIn K (.ref C) (.type "BaseException") = some true
  ty : PySem.W.typeIn K (.ref C) = some (.type "type")
  e : ExcC K C
/-- what of the errors' own words is told -/
def nameIn (K : PySem.W.Frag) (C : Addr) : Option Str := (PySem.W.clsIn K C).map (·.name)
def wordOf (x : Str) : Str := if x = "NotAllowed" then "refused" else if x = "BadForm" then "form" else if x = "BadRange" then "range" else if x = "TooLarge" then "large" else if x = "Missing" then "missing" else if x = "Ring" then "ring" else "steps"
/-- what a raised error carries -/
def ErrAt (K : PySem.W.Frag) (C d : Addr) (H : Hp) : Prop := ∃ x, nameIn K C = some x ∧ H d = some (.xd [("word", .str (wordOf x))])
theorem ErrAt.ex {K : PySem.W.Frag} {C d : Addr} {H H' : Hp} (h : ErrAt K C d H) (e : Ex H H') : ErrAt K C d H' := let ⟨x, h1, h2⟩ := h; ⟨x, h1, e _ _ h2⟩
/-- raise X('..') -/
def tRaise (K : PySem.W.Frag) (E : XK) (C : Addr) : TS := fun _ _ H => ∀ H', Ex H H' → ∀ d, ErrAt K C d H' → E (.ref C) (some d) H'
section
variable {K : PySem.W.Frag} {σ : L2.St} {H H' : Hp} {ta tb te : TE} {i j : Int} {v : V} {t : TT} {x y : V} {D : Ends} {tz tu : TS}
theorem ev_add (ha : Ev ta σ H (.int i)) (hb : Ev tb σ H (.int j)) : Ev (tOp xAdd ta tb) σ H (.int (i + j)) := ev_op ha hb rv_I0
theorem ev_sub (ha : Ev ta σ H (.int i)) (hb : Ev tb σ H (.int j)) : Ev (tOp xSub ta tb) σ H (.int (i - j)) := ev_op ha hb rv_I0
theorem ev_mul (ha : Ev ta σ H (.int i)) (hb : Ev tb σ H (.int j)) (c : CMul i j) : Ev (tOp xMul ta tb) σ H (.int (i * j)) := ev_op ha hb (rv_I c)
theorem ev_mod (ha : Ev ta σ H (.int i)) (hb : Ev tb σ H (.int j)) (c : 0 < j) : Ev (tOp xMod ta tb) σ H (.int (i % j)) := ev_op ha hb (rv_I c)
theorem ev_fdiv (ha : Ev ta σ H (.int i)) (hb : Ev tb σ H (.int j)) (c : CDiv i j) : Ev (tOp xFdiv ta tb) σ H (.int (i / j)) := ev_op ha hb (rv_I c)
theorem ev_pow (ha : Ev ta σ H (.int i)) (hb : Ev tb σ H (.int j)) (c : CPow i j) : Ev (tOp xPow ta tb) σ H (.int (i ^ j.toNat)) := ev_op ha hb (rv_I c)
theorem ev_lt (ha : Ev ta σ H (.int i)) (hb : Ev tb σ H (.int j)) : Ev (tOp xLt ta tb) σ H (.bl (decide (i < j))) := ev_op ha hb rv_I0
theorem ev_le (ha : Ev ta σ H (.int i)) (hb : Ev tb σ H (.int j)) : Ev (tOp xLe ta tb) σ H (.bl (decide (i ≤ j))) := ev_op ha hb rv_I0
theorem ev_gt (ha : Ev ta σ H (.int i)) (hb : Ev tb σ H (.int j)) : Ev (tOp xGt ta tb) σ H (.bl (decide (j < i))) := ev_op ha hb rv_I0
theorem ev_ge (ha : Ev ta σ H (.int i)) (hb : Ev tb σ H (.int j)) : Ev (tOp xGe ta tb) σ H (.bl (decide (j ≤ i))) := ev_op ha hb rv_I0
theorem ev_eq (ha : Ev ta σ H x) (hb : Ev tb σ H y) (h : scal x y = true) : Ev (tOp rEq ta tb) σ H (.bl (decide (x = y))) := ev_op ha hb (rv_eq h)
theorem ev_ne (ha : Ev ta σ H x) (hb : Ev tb σ H y) (h : scal x y = true) : Ev (tOp rNe ta tb) σ H (.bl (!decide (x = y))) := ev_op ha hb (rv_ne h)
theorem ev_int1 (ha : Ev ta σ H (.int i)) : Ev (tCB xInt1 (tCons ta tNil)) σ H (.int i) := ev_cb (ea_cons ha ea_nil) fun H1 _ Q q => .inl ⟨i, rfl, q H1 (Ex.refl H1)⟩
theorem ev_abs (ha : Ev ta σ H (.int i)) : Ev (tCB xAbs (tCons ta tNil)) σ H (.int (if i < 0 then -i else i)) := ev_cb (ea_cons ha ea_nil) fun H1 _ Q q => ⟨i, rfl, q H1 (Ex.refl H1)⟩
theorem ev_at {a : Addr} {xs : List V} {k : Int} (ho : Ev ta σ H (.ref a)) (hi : Ev tb σ H (.int k)) (hs : SqL K H a xs) (ha : atI xs k = some v) : Ev (tOp (rIxL K) ta tb) σ H v := ev_op ho hi (rv_ixL hs ha)
theorem ev_atT {a : Addr} {xs : List V} {k : Int} (ho : Ev ta σ H (.ref a)) (hi : Ev tb σ H (.int k)) (hs : SqT K H a xs) (ha : atI xs k = some v) : Ev (tOp (rIxT K) ta tb) σ H v := ev_op ho hi (rv_ixT hs ha)
theorem ev_lenL {a : Addr} {xs : List V} (ho : Ev ta σ H (.ref a)) (hs : SqL K H a xs) : Ev (tCB (rLenS K) (tCons ta tNil)) σ H (.int (xs.length : Int)) := ev_len ho hs
theorem et_truL {a : Addr} {xs : List V} (ha : Ev ta σ H (.ref a)) (hs : SqL K H a xs) : EvT (tTruK K ta) σ H (!xs.isEmpty) := fun H1 e Q q => ha H1 e _ fun H2 e2 => ⟨_, .inl ⟨xs, ex_l (e.trans e2) hs, rfl⟩, q H2 e2⟩
end
theorem hu150 {A : Around} {k : Nat} (hr : Room k A) : A.units + 150 < cLine := by have := hr.un; omega
end Sk
namespace Sk
inductive T where
  | nil
  | cons (s : Int) (e : T) (r : T)
  deriving DecidableEq, Repr
/-- the signed places of an integer, the least first -/
def naf (n : Int) (p : Nat) : List (Int × Nat) :=
  if h : n = 0 then [] else if h2 : n % 2 = 1 then (2 - n % 4, p) :: naf ((n - (2 - n % 4)) / 2) (p + 1) else naf (n / 2) (p + 1)
termination_by n.natAbs
decreasing_by all_goals omega
theorem naf_zero (p : Nat) : naf 0 p = [] := by rw [naf]; simp
theorem naf_odd {n : Int} (h : n % 2 = 1) (p : Nat) : naf n p = (2 - n % 4, p) :: naf ((n - (2 - n % 4)) / 2) (p + 1) := by
  rw [naf, dif_neg (by omega), dif_pos h]
theorem naf_even {n : Int} (h : n % 2 = 0) (p : Nat) : naf n p = naf (n / 2) (p + 1) := by
  by_cases h0 : n = 0
  · subst h0; rw [naf_zero]; show _ = naf 0 _; rw [naf_zero]
  · rw [naf, dif_neg h0, dif_neg (by omega)]
/-- every place of n lies below: 2 ^ (q - p) ≤ 2 |n| - 1 -/
theorem naf_mem_ge : ∀ (k : Nat) (n : Int), n.natAbs ≤ k → ∀ (p : Nat) (x : Int × Nat), x ∈ naf n p → p ≤ x.2 ∧ 2 ^ (x.2 - p) + 1 ≤ 2 * n.natAbs ∧ (x.1 = 1 ∨ x.1 = -1)
  | 0, n, hk, p, x, hx => by
    have : n = 0 := by omega
    subst this; rw [naf_zero] at hx; cases hx
  | k + 1, n, hk, p, x, hx => by
    by_cases h0 : n = 0
    · subst h0; rw [naf_zero] at hx; cases hx
    rcases Int.emod_two_eq n with h | h
    · rw [naf_even h] at hx
      obtain ⟨h1, h2, h3⟩ := naf_mem_ge k (n / 2) (by omega) (p + 1) x hx
      refine ⟨by omega, ?_, h3⟩
      have e : x.2 - p = (x.2 - (p + 1)) + 1 := by omega
      rw [e, Nat.pow_succ]
      omega
    · rw [naf_odd h] at hx
      rcases List.mem_cons.mp hx with rfl | hx
      · have : n.natAbs ≥ 1 := by omega
        refine ⟨Nat.le_refl _, ?_, by show 2 - n % 4 = 1 ∨ 2 - n % 4 = -1; omega⟩
        show 2 ^ (p - p) + 1 ≤ _
        rw [Nat.sub_self]
        omega
      · by_cases hz : (n - (2 - n % 4)) / 2 = 0
        · rw [hz, naf_zero] at hx; cases hx
        have hev : (n - (2 - n % 4)) / 2 % 2 = 0 := by omega
        rw [naf_even hev] at hx
        obtain ⟨h1, h2, h3⟩ := naf_mem_ge k ((n - (2 - n % 4)) / 2 / 2) (by omega) (p + 1 + 1) x hx
        refine ⟨by omega, ?_, h3⟩
        have e : x.2 - p = (x.2 - (p + 1 + 1)) + 1 + 1 := by omega
        rw [e, Nat.pow_succ, Nat.pow_succ]
        omega
theorem naf_place {n : Int} {x : Int × Nat} (h : x ∈ naf n 0) : 2 ^ x.2 + 1 ≤ 2 * n.natAbs := by
  have := (naf_mem_ge n.natAbs n (Nat.le_refl _) 0 x h).2.1
  simpa using this
theorem naf_sign {n : Int} {x : Int × Nat} (h : x ∈ naf n 0) : x.1 = 1 ∨ x.1 = -1 := (naf_mem_ge n.natAbs n (Nat.le_refl _) 0 x h).2.2
theorem naf_lt {n : Int} {x : Int × Nat} (h : x ∈ naf n 0) : x.2 < n.natAbs := by
  have h1 := naf_place h
  have h2 : x.2 < 2 ^ x.2 := Nat.lt_two_pow_self
  rcases Nat.eq_zero_or_pos x.2 with h3 | h3
  · rw [h3] at h1; simp at h1; omega
  · have h4 : 2 * x.2 ≤ 2 ^ x.2 := by
      have : x.2 = (x.2 - 1) + 1 := by omega
      have h5 : x.2 - 1 < 2 ^ (x.2 - 1) := Nat.lt_two_pow_self
      rw [this, Nat.pow_succ]
      omega
    omega
/-- |n| ≤ 2 ^ m: the places are at most m -/
theorem naf_le {n : Int} {m : Nat} (hn : n.natAbs ≤ 2 ^ m) {x : Int × Nat} (h : x ∈ naf n 0) : x.2 ≤ m := by
  have h1 := naf_place h
  apply Nat.le_of_not_lt
  intro h2
  have h3 : 2 ^ (m + 1) ≤ 2 ^ x.2 := Nat.pow_le_pow_right (by decide) h2
  rw [Nat.pow_succ] at h3
  omega
def ofL : List (Int × T) → T
  | [] => .nil
  | (s, e) :: r => .cons s e (ofL r)
def T.toL : T → List (Int × T)
  | .nil => []
  | .cons s e r => (s, e) :: r.toL
theorem toL_ofL : ∀ l, (ofL l).toL = l
  | [] => rfl
  | (s, e) :: r => by rw [ofL, T.toL, toL_ofL r]
theorem ofL_toL : ∀ t : T, ofL t.toL = t
  | .nil => rfl
  | .cons s e r => by rw [T.toL, ofL, ofL_toL r]
/-- the number for an integer -/
def toT (n : Int) : T := ofL ((naf n 0).reverse.attach.map fun x => (x.1.1, toT (x.1.2 : Int)))
termination_by n.natAbs
decreasing_by
  have h := naf_lt (List.mem_reverse.mp x.2)
  simpa using h
theorem toT_eq (n : Int) : toT n = ofL ((naf n 0).reverse.map fun x => (x.1, toT (x.2 : Int))) := by
  rw [toT]
  congr 1
  exact List.attach_map_val (l := (naf n 0).reverse) (f := fun x : Int × Nat => (x.1, toT (x.2 : Int)))
def T.val : T → Int
  | .nil => 0
  | .cons s e r => s * 2 ^ e.val.toNat + r.val
def sumP : List (Int × Nat) → Int
  | [] => 0
  | (s, p) :: r => s * 2 ^ p + sumP r
theorem sumP_append : ∀ a b, sumP (a ++ b) = sumP a + sumP b
  | [], b => by simp [sumP]
  | (s, p) :: r, b => by rw [List.cons_append, sumP, sumP, sumP_append r b]; omega
theorem sumP_reverse : ∀ a, sumP a.reverse = sumP a
  | [] => rfl
  | (s, p) :: r => by rw [List.reverse_cons, sumP_append, sumP_reverse r, sumP, sumP, sumP]; omega
theorem naf_sum : ∀ (k : Nat) (n : Int), n.natAbs ≤ k → ∀ p, sumP (naf n p) = n * 2 ^ p
  | 0, n, hk, p => by
    have : n = 0 := by omega
    subst this; rw [naf_zero]; simp [sumP]
  | k + 1, n, hk, p => by
    by_cases h0 : n = 0
    · subst h0; rw [naf_zero]; simp [sumP]
    rcases Int.emod_two_eq n with h | h
    · rw [naf_even h, naf_sum k (n / 2) (by omega), Int.pow_succ, Int.mul_comm (2 ^ p) 2, ← Int.mul_assoc]
      congr 1
      omega
    · rw [naf_odd h, sumP]
      have h4 : n % 4 = 1 ∨ n % 4 = 3 := by omega
      have hs : sumP (naf ((n - (2 - n % 4)) / 2) (p + 1)) = ((n - (2 - n % 4)) / 2) * 2 ^ (p + 1) := by
        by_cases hz : (n - (2 - n % 4)) / 2 = 0
        · rw [hz, naf_zero]; simp [sumP]
        · exact naf_sum k _ (by omega) _
      rw [hs, Int.pow_succ, Int.mul_comm (2 ^ p) 2, ← Int.mul_assoc, ← Int.add_mul]
      congr 1
      omega
theorem val_ofL (l : List (Int × T)) : (ofL l).val = (l.map fun x => x.1 * 2 ^ x.2.val.toNat).sum := by
  induction l with
  | nil => rfl
  | cons x r ih => obtain ⟨s, e⟩ := x; rw [ofL, T.val, ih, List.map_cons, List.sum_cons]
theorem toT_val_aux : ∀ (k : Nat) (n : Int), n.natAbs ≤ k → (toT n).val = n
  | 0, n, hk => by
    have : n = 0 := by omega
    subst this; rw [toT_eq, naf_zero]; rfl
  | k + 1, n, hk => by
    rw [toT_eq, val_ofL, List.map_map]
    have h : ∀ l : List (Int × Nat), (∀ x ∈ l, x.2 < n.natAbs) → (l.map ((fun x : Int × T => x.1 * 2 ^ x.2.val.toNat) ∘ fun x : Int × Nat => (x.1, toT (x.2 : Int)))).sum = sumP l := by
      intro l
      induction l with
      | nil => intro _; rfl
      | cons x r ih =>
        intro hl
        obtain ⟨s, p⟩ := x
        rw [List.map_cons, List.sum_cons, ih fun y hy => hl y (List.mem_cons_of_mem _ hy), sumP]
        have hp := hl (s, p) List.mem_cons_self
        show s * 2 ^ (toT (p : Int)).val.toNat + _ = _
        rw [toT_val_aux k (p : Int) (by simp at hp ⊢; omega)]
        rfl
    rw [h _ fun x hx => naf_lt (List.mem_reverse.mp hx), sumP_reverse, naf_sum n.natAbs n (Nat.le_refl _) 0]
    simp
theorem toT_val (n : Int) : (toT n).val = n := toT_val_aux n.natAbs n (Nat.le_refl _)
/-- how many figures: the model's bit_length -/
def bl (n : Nat) : Nat := if n = 0 then 0 else n.log2 + 1
theorem lt_bl (n : Nat) : n < 2 ^ bl n := by
  unfold bl
  split
  · rename_i h; subst h; decide
  · rename_i h; exact Nat.lt_log2_self
def T.size : T → Nat
  | .nil => 1
  | .cons _ e r => e.size + r.size
def T.height : T → Nat
  | .nil => 0
  | .cons _ e r => max (e.height + 1) r.height
def T.fits (t : T) : Prop := t.size ≤ 300 ∧ t.height ≤ 40
instance (t : T) : Decidable t.fits := by unfold T.fits; exact inferInstance
end Sk
set_option Elab.async false
set_option linter.all false
set_option maxRecDepth 100000
set_option maxHeartbeats 2000000
namespace Sk
open PySem L2 Evl
def T.items : T → List PyData
  | .nil => []
  | .cons s e r => .tuple [.int s, .tuple e.items] :: r.items
def T.data (t : T) : PyData := .tuple t.items
/-- v is the number t -/
def NumV (K : PySem.W.Frag) (H : Hp) (v : V) (t : T) : Prop := Dp K H v t.data
/-- the terms of t -/
def TermsV (K : PySem.W.Frag) (H : Hp) (xs : List V) (t : T) : Prop := DpAll K H xs t.items
section
variable {K : PySem.W.Frag} {H H' : Hp} {v : V} {t : T}
theorem NumV.out (h : NumV K H v t) : ∃ a xs, v = .ref a ∧ SqT K H a xs ∧ TermsV K H xs t := by
  cases h with
  | tup h1 h2 => exact ⟨_, _, rfl, h1, h2⟩
theorem NumV.mk {a : Addr} {xs : List V} (h1 : SqT K H a xs) (h2 : TermsV K H xs t) : NumV K H (.ref a) t := L2.Dp.tup h1 h2
theorem TermsV.nil_out {xs : List V} (h : TermsV K H xs .nil) : xs = [] := by cases h; rfl
theorem TermsV.nil : TermsV K H [] .nil := L2.DpAll.nil
theorem TermsV.cons_out {xs : List V} {s : Int} {e r : T} (h : TermsV K H xs (.cons s e r)) : ∃ p w ys, xs = .ref p :: ys ∧ SqT K H p [.int s, w] ∧ NumV K H w e ∧ TermsV K H ys r := by
  cases h with
  | cons h1 h2 =>
    cases h1 with
    | tup g1 g2 =>
      cases g2 with
      | cons k1 k2 =>
        cases k1
        cases k2 with
        | cons l1 l2 =>
          cases l2
          exact ⟨_, _, _, rfl, g1, l1, h2⟩
theorem TermsV.cons {p : Addr} {w : V} {ys : List V} {s : Int} {e r : T} (h1 : SqT K H p [.int s, w]) (h2 : NumV K H w e) (h3 : TermsV K H ys r) : TermsV K H (.ref p :: ys) (.cons s e r) :=
  L2.DpAll.cons (L2.Dp.tup h1 (L2.DpAll.cons (L2.Dp.int s) (L2.DpAll.cons h2 L2.DpAll.nil))) h3
theorem TermsV.tex : ∀ {t : T} {xs : List V}, TermsV K H xs t → TEx H H' → TermsV K H' xs t
  | .nil, xs, h, _ => by rw [h.nil_out]; exact TermsV.nil
  | .cons s e r, xs, h, k => by
    obtain ⟨p, w, ys, rfl, h1, h2, h3⟩ := h.cons_out
    obtain ⟨a, zs, rfl, g1, g2⟩ := h2.out
    exact TermsV.cons (tex_sqt k h1) (NumV.mk (tex_sqt k g1) (TermsV.tex g2 k)) (TermsV.tex h3 k)
theorem NumV.tex (h : NumV K H v t) (e : TEx H H') : NumV K H' v t := by
  obtain ⟨a, zs, rfl, g1, g2⟩ := h.out
  exact NumV.mk (tex_sqt e g1) (g2.tex e)
theorem NumV.ex (h : NumV K H v t) (e : Ex H H') : NumV K H' v t := h.tex (Ex.t e)
theorem TermsV.ex {xs : List V} (h : TermsV K H xs t) (e : Ex H H') : TermsV K H' xs t := h.tex (Ex.t e)
theorem TermsV.len : ∀ {t : T} {xs : List V}, TermsV K H xs t → xs.length = t.toL.length
  | .nil, xs, h => by rw [h.nil_out]; rfl
  | .cons s e r, xs, h => by
    obtain ⟨p, w, ys, rfl, _, _, h3⟩ := h.cons_out
    show ys.length + 1 = r.toL.length + 1
    rw [TermsV.len h3]
/-- term by term -/
theorem TermsV.get : ∀ {t : T} {xs : List V} {i : Nat} {x : V}, TermsV K H xs t → xs[i]? = some x → ∃ p s e w, x = .ref p ∧ t.toL[i]? = some (s, e) ∧ SqT K H p [.int s, w] ∧ NumV K H w e
  | .nil, xs, i, x, h, e => by rw [h.nil_out] at e; simp at e
  | .cons s e r, xs, 0, x, h, q => by
    obtain ⟨p, w, ys, rfl, h1, h2, h3⟩ := h.cons_out
    simp at q; subst q
    exact ⟨p, s, e, w, rfl, rfl, h1, h2⟩
  | .cons s e r, xs, i + 1, x, h, q => by
    obtain ⟨p, w, ys, rfl, h1, h2, h3⟩ := h.cons_out
    simp at q
    obtain ⟨p', s', e', w', g1, g2, g3, g4⟩ := TermsV.get h3 q
    exact ⟨p', s', e', w', g1, g2, g3, g4⟩
/-- terms from their parts -/
theorem TermsV.of : ∀ {l : List (Int × T)} {xs : List V}, xs.length = l.length → (∀ (i : Nat) (x : V) (s : Int) (e : T), xs[i]? = some x → l[i]? = some (s, e) → ∃ p w, x = V.ref p ∧ SqT K H p [V.int s, w] ∧ NumV K H w e) → TermsV K H xs (ofL l)
  | [], [], _, _ => L2.DpAll.nil
  | [], _ :: _, h, _ => by simp at h
  | _ :: _, [], h, _ => by simp at h
  | (s, e) :: l, x :: xs, h, k => by
    obtain ⟨p, w, rfl, h1, h2⟩ := k 0 x s e rfl rfl
    exact TermsV.cons h1 h2 (TermsV.of (by simpa using h) fun i x s e h1 h2 => k (i + 1) x s e (by simpa using h1) (by simpa using h2))
end
end Sk
set_option Elab.async false
set_option linter.all false
set_option maxRecDepth 100000
set_option maxHeartbeats 2000000
namespace Sk
open PySem L2 Evl
def spF1 (P : V → Hp → VP → Prop) : Sp := fun vs H Q _ => ∃ x R, vs = [x] ∧ P x H R ∧ ∀ v H', Ex H H' → R v H' → Q v H'
def spF2 (P : V → V → Hp → VP → Prop) : Sp := fun vs H Q _ => ∃ x y R, vs = [x, y] ∧ P x y H R ∧ ∀ v H', Ex H H' → R v H' → Q v H'
def spF3 (P : V → V → V → Hp → VP → Prop) : Sp := fun vs H Q _ => ∃ x y z R, vs = [x, y, z] ∧ P x y z H R ∧ ∀ v H', Ex H H' → R v H' → Q v H'
def spF4 (P : V → V → V → V → Hp → VP → Prop) : Sp := fun vs H Q _ => ∃ x y z u R, vs = [x, y, z, u] ∧ P x y z u H R ∧ ∀ v H', Ex H H' → R v H' → Q v H'
abbrev WP := Addr → Prop
def spX1 (K : PySem.W.Frag) (P : V → Hp → VP → WP → Prop) : Sp := fun vs H Q E => ∃ x R W, vs = [x] ∧ P x H R W ∧ (∀ v H', Ex H H' → R v H' → Q v H') ∧ ∀ C H', Ex H H' → W C → ∀ d, ErrAt K C d H' → E (.ref C) (some d) H'
def spX2 (K : PySem.W.Frag) (P : V → V → Hp → VP → WP → Prop) : Sp := fun vs H Q E => ∃ x y R W, vs = [x, y] ∧ P x y H R W ∧ (∀ v H', Ex H H' → R v H' → Q v H') ∧ ∀ C H', Ex H H' → W C → ∀ d, ErrAt K C d H' → E (.ref C) (some d) H'
def spX3 (K : PySem.W.Frag) (P : V → V → V → Hp → VP → WP → Prop) : Sp := fun vs H Q E => ∃ x y z R W, vs = [x, y, z] ∧ P x y z H R W ∧ (∀ v H', Ex H H' → R v H' → Q v H') ∧ ∀ C H', Ex H H' → W C → ∀ d, ErrAt K C d H' → E (.ref C) (some d) H'
section
variable {K : PySem.W.Frag} {vs : List V} {H : Hp} {Q : VK} {E : XK} {R : VP} {W : WP} {x y z u : V}
theorem spF1.len {P} (h : spF1 P vs H Q E) : vs.length = 1 := by obtain ⟨x, R, rfl, _⟩ := h; rfl
theorem spF2.len {P} (h : spF2 P vs H Q E) : vs.length = 2 := by obtain ⟨x, y, R, rfl, _⟩ := h; rfl
theorem spF3.len {P} (h : spF3 P vs H Q E) : vs.length = 3 := by obtain ⟨x, y, z, R, rfl, _⟩ := h; rfl
theorem spF4.len {P} (h : spF4 P vs H Q E) : vs.length = 4 := by obtain ⟨x, y, z, u, R, rfl, _⟩ := h; rfl
theorem spX1.len {P} (h : spX1 K P vs H Q E) : vs.length = 1 := by obtain ⟨x, R, W, rfl, _⟩ := h; rfl
theorem spX2.len {P} (h : spX2 K P vs H Q E) : vs.length = 2 := by obtain ⟨x, y, R, W, rfl, _⟩ := h; rfl
theorem spX3.len {P} (h : spX3 K P vs H Q E) : vs.length = 3 := by obtain ⟨x, y, z, R, W, rfl, _⟩ := h; rfl
theorem sr1 {P} (h : P x H R) : SR (spF1 P) [x] H R := fun Q E q => ⟨x, R, rfl, h, q⟩
theorem sr2 {P} (h : P x y H R) : SR (spF2 P) [x, y] H R := fun Q E q => ⟨x, y, R, rfl, h, q⟩
theorem sr3 {P} (h : P x y z H R) : SR (spF3 P) [x, y, z] H R := fun Q E q => ⟨x, y, z, R, rfl, h, q⟩
end
section
variable {K : PySem.W.Frag} {σ : L2.St} {H : Hp} {te tf tg : TE} {R R1 R2 R3 : VP} {E : XK} {D : Ends} {tz tu : TS} {t : TT} {i : Nat}
theorem er_call1 {P} (h : ER te σ H R1) (m : Mono R1) (k : ∀ v H1, Ex H H1 → R1 v H1 → P v H1 R) : ER (tCall (spF1 P) [] E (tCons te tNil)) σ H R :=
  er_call (ea_one h m) fun vs H1 e ⟨v, hv, r⟩ => by rw [hv]; exact sr1 (k v H1 e r)
theorem er_call2 {P} (h : ER te σ H R1) (m : Mono R1) (h' : ER tf σ H R2) (m' : Mono R2) (k : ∀ v w H1, Ex H H1 → R1 v H1 → R2 w H1 → P v w H1 R) : ER (tCall (spF2 P) [] E (tCons te (tCons tf tNil))) σ H R :=
  er_call (ea_two h m h' m') fun vs H1 e ⟨v, w, hv, r, r'⟩ => by rw [hv]; exact sr2 (k v w H1 e r r')
theorem er_call3 {P} (h : ER te σ H R1) (m : Mono R1) (h' : ER tf σ H R2) (m' : Mono R2) (h'' : ER tg σ H R3) (m'' : Mono R3) (k : ∀ v w z H1, Ex H H1 → R1 v H1 → R2 w H1 → R3 z H1 → P v w z H1 R) : ER (tCall (spF3 P) [] E (tCons te (tCons tf (tCons tg tNil)))) σ H R :=
  er_call (ea_three h m h' m' h'' m'') fun vs H1 e ⟨v, w, z, hv, r, r', r''⟩ => by rw [hv]; exact sr3 (k v w z H1 e r r' r'')
/-- a call that may raise -/
theorem x_call1 {P : V → Hp → VP → WP → Prop} (h : ER te σ H R1) (m : Mono R1) (Q : VK) (k : ∀ v H1, Ex H H1 → R1 v H1 → ∃ R W, P v H1 R W ∧ (∀ w H2, Ex H1 H2 → R w H2 → Q w H2) ∧ ∀ C H2, Ex H1 H2 → W C → ∀ d, ErrAt K C d H2 → E (.ref C) (some d) H2) : tCall (spX1 K P) [] E (tCons te tNil) σ H Q :=
  ea_one h m H (Ex.refl H) _ fun vs H1 e ⟨v, hv, r⟩ => by
    subst hv
    obtain ⟨R, W, h1, h2, h3⟩ := k v H1 e r
    exact ⟨v, R, W, rfl, h1, h2, h3⟩
theorem x_call2 {P : V → V → Hp → VP → WP → Prop} (h : ER te σ H R1) (m : Mono R1) (h' : ER tf σ H R2) (m' : Mono R2) (Q : VK) (k : ∀ v v' H1, Ex H H1 → R1 v H1 → R2 v' H1 → ∃ R W, P v v' H1 R W ∧ (∀ w H2, Ex H1 H2 → R w H2 → Q w H2) ∧ ∀ C H2, Ex H1 H2 → W C → ∀ d, ErrAt K C d H2 → E (.ref C) (some d) H2) : tCall (spX2 K P) [] E (tCons te (tCons tf tNil)) σ H Q :=
  ea_two h m h' m' H (Ex.refl H) _ fun vs H1 e ⟨v, v', hv, r, r'⟩ => by
    subst hv
    obtain ⟨R, W, h1, h2, h3⟩ := k v v' H1 e r r'
    exact ⟨v, v', R, W, rfl, h1, h2, h3⟩
theorem monoC {P : V → Prop} : Mono (fun v _ => P v) := fun _ _ _ _ h => h
theorem monoTC {P : V → Prop} : MonoT (fun v _ => P v) := fun _ _ _ _ h => h
/-- while: a word that falls -/
theorem q_while' (W : Nat → L2.St → Hp → Prop) (m0 : Nat) (h0 : W m0 σ H)
    (hs : ∀ m σ' H', W m σ' H' → ∃ b, EvT t σ' H' b ∧ (b = true → ∀ H1, Ex H' H1 → tu { D with nx := fun σ2 H2 => ∃ m', m' < m ∧ W m' σ2 H2, ct := fun σ2 H2 => ∃ m', m' < m ∧ W m' σ2 H2, bk := tz D } σ' H1) ∧ (b = false → ∀ H1, Ex H' H1 → tz D σ' H1)) : tSeq (tWhile t tu) tz D σ H :=
  q_while W m0 h0 fun m σ' H' w => by
    obtain ⟨b, h1, h2, h3⟩ := hs m σ' H' w
    exact ⟨b, h1, fun hb H1 e => ⟨fun σ2 H2 => ∃ m', m' < m ∧ W m' σ2 H2, fun _ _ z => z, h2 hb H1 e⟩, h3⟩
end
end Sk
namespace Sk
open PySem L2 Evl
def ItemsR {α : Type} (R : α → VP) (l : List α) (ys : List V) (H : Hp) : Prop := ys.length = l.length ∧ ∀ (i : Nat) (y : V) (a : α), ys[i]? = some y → l[i]? = some a → R a y H
section
variable {α : Type} {R R' : α → VP} {l l' : List α} {ys zs : List V} {H H' : Hp}
theorem ItemsR.nil : ItemsR R [] [] H := ⟨rfl, fun i y a h => by simp at h⟩
theorem ItemsR.tex (m : ∀ a, MonoT (R a)) (h : ItemsR R l ys H) (e : TEx H H') : ItemsR R l ys H' := ⟨h.1, fun i y a h1 h2 => m a y H H' e (h.2 i y a h1 h2)⟩
theorem ItemsR.ex (m : ∀ a, Mono (R a)) (h : ItemsR R l ys H) (e : Ex H H') : ItemsR R l ys H' := ⟨h.1, fun i y a h1 h2 => m a y H H' e (h.2 i y a h1 h2)⟩
theorem ItemsR.snoc {a : α} {y : V} (h : ItemsR R l ys H) (hy : R a y H) : ItemsR R (l ++ [a]) (ys ++ [y]) H := by
  refine ⟨by rw [List.length_append, List.length_append, h.1]; rfl, fun i z b h1 h2 => ?_⟩
  rcases Nat.lt_or_ge i ys.length with hi | hi
  · rw [List.getElem?_append_left hi] at h1
    rw [List.getElem?_append_left (by rw [← h.1]; exact hi)] at h2
    exact h.2 i z b h1 h2
  · rw [List.getElem?_append_right hi] at h1
    rw [List.getElem?_append_right (by rw [← h.1]; exact hi), ← h.1] at h2
    cases hq : i - ys.length with
    | zero => rw [hq] at h1 h2; cases h1; cases h2; exact hy
    | succ n => rw [hq] at h1; cases h1
theorem ItemsR.rev (h : ItemsR R l ys H) : ItemsR R l.reverse ys.reverse H := by
  refine ⟨by rw [List.length_reverse, List.length_reverse, h.1], fun i z b h1 h2 => ?_⟩
  have hi : i < ys.reverse.length := (List.getElem?_eq_some_iff.mp h1).1
  rw [List.length_reverse] at hi
  rw [List.getElem?_reverse hi] at h1
  rw [List.getElem?_reverse (by rw [← h.1]; exact hi), ← h.1] at h2
  exact h.2 _ z b h1 h2
theorem ItemsR.imp (h : ItemsR R l ys H) (k : ∀ a y, a ∈ l → R a y H → R' a y H) : ItemsR R' l ys H := ⟨h.1, fun i y a h1 h2 => k a y (List.mem_of_getElem? h2) (h.2 i y a h1 h2)⟩
theorem ItemsR.at {i : Nat} {a : α} (h : ItemsR R l ys H) (ha : l[i]? = some a) : ∃ y, ys[i]? = some y ∧ R a y H := by
  have hi : i < l.length := (List.getElem?_eq_some_iff.mp ha).1
  have hi2 : i < ys.length := by rw [h.1]; exact hi
  have hy : ys[i]? = some ys[i] := List.getElem?_eq_getElem hi2
  exact ⟨_, hy, h.2 i _ a hy ha⟩
theorem ItemsR.of_at {i : Nat} {y : V} (h : ItemsR R l ys H) (hy : ys[i]? = some y) : ∃ a, l[i]? = some a ∧ R a y H := by
  have hi : i < ys.length := (List.getElem?_eq_some_iff.mp hy).1
  have hi2 : i < l.length := by rw [← h.1]; exact hi
  have ha : l[i]? = some l[i] := List.getElem?_eq_getElem hi2
  exact ⟨_, ha, h.2 i y _ hy ha⟩
end
/-- ints -/
def IntI (n : Int) : VP := fun v _ => v = .int n
theorem ItemsR.ints {l : List Int} {ys : List V} {H : Hp} (h : ItemsR IntI l ys H) : ys = l.map V.int := by
  apply List.ext_getElem?
  intro i
  rw [List.getElem?_map]
  cases hy : ys[i]? with
  | none =>
    have : l[i]? = none := List.getElem?_eq_none (by rw [← h.1]; exact List.getElem?_eq_none_iff.mp hy)
    rw [this]; rfl
  | some y =>
    obtain ⟨a, ha, e⟩ := h.of_at hy
    rw [ha, Option.map_some, e]
section
variable {H : Hp}
theorem ItemsR.set {α : Type} {R : α → VP} {l : List α} {ys : List V} {i : Nat} {a : α} {y : V} (h : ItemsR R l ys H) (hy : R a y H) : ItemsR R (l.set i a) (ys.set i y) H := by
  refine ⟨by rw [List.length_set, List.length_set, h.1], fun j z b h1 h2 => ?_⟩
  by_cases e : i = j
  · subst e
    have hlt : i < ys.length := by
      have := (List.getElem?_eq_some_iff.mp h1).1
      rw [List.length_set] at this; exact this
    rw [List.getElem?_set_self hlt] at h1
    rw [List.getElem?_set_self (by rw [← h.1]; exact hlt)] at h2
    cases h1; cases h2; exact hy
  · rw [List.getElem?_set_ne e] at h1 h2
    exact h.2 j z b h1 h2
theorem ItemsR.append {α : Type} {R : α → VP} {l l' : List α} {ys zs : List V} (h : ItemsR R l ys H) (h' : ItemsR R l' zs H) : ItemsR R (l ++ l') (ys ++ zs) H := by
  refine ⟨by rw [List.length_append, List.length_append, h.1, h'.1], fun i z b h1 h2 => ?_⟩
  rcases Nat.lt_or_ge i ys.length with hi | hi
  · rw [List.getElem?_append_left hi] at h1
    rw [List.getElem?_append_left (by rw [← h.1]; exact hi)] at h2
    exact h.2 i z b h1 h2
  · rw [List.getElem?_append_right hi] at h1
    rw [List.getElem?_append_right (by rw [← h.1]; exact hi), ← h.1] at h2
    exact h'.2 _ z b h1 h2
theorem ItemsR.take {α : Type} {R : α → VP} {l : List α} {ys : List V} (n : Nat) (h : ItemsR R l ys H) : ItemsR R (l.take n) (ys.take n) H := by
  refine ⟨by rw [List.length_take, List.length_take, h.1], fun i z b h1 h2 => ?_⟩
  rw [List.getElem?_take] at h1 h2
  split at h1
  · rename_i q
    rw [if_pos q] at h2
    exact h.2 i z b h1 h2
  · cases h1
theorem ItemsR.drop {α : Type} {R : α → VP} {l : List α} {ys : List V} (n : Nat) (h : ItemsR R l ys H) : ItemsR R (l.drop n) (ys.drop n) H := by
  refine ⟨by rw [List.length_drop, List.length_drop, h.1], fun i z b h1 h2 => ?_⟩
  rw [List.getElem?_drop] at h1 h2
  exact h.2 _ z b h1 h2
theorem ItemsR.ins {α : Type} {R : α → VP} {l : List α} {ys : List V} {a : α} {y : V} (n : Nat) (h : ItemsR R l ys H) (hy : R a y H) : ItemsR R (l.take n ++ [a] ++ l.drop n) (ys.take n ++ [y] ++ ys.drop n) H :=
  ((h.take n).append (ItemsR.snoc (l := []) .nil hy)).append (h.drop n)
end
end Sk
set_option Elab.async false
set_option linter.all false
set_option maxRecDepth 100000
set_option maxHeartbeats 2000000
namespace Sk
open PySem L2 Evl
theorem fn_vac {P : Program} {w : World} {K : PySem.W.Frag} {mg : Str → Option Value} {base : Heap} {CX : CXT} {k : Nat} {f : Addr} {fd : FuncData} {ps : List Str} {sp : Sp} (no : ∀ vs H Q E, ¬ sp vs H Q E) : FnOk P w K mg base CX k f fd ps sp := ⟨fun vs H Q E h => absurd h (no vs H Q E), fun A outer s H args us vs Q E _ _ _ _ h => absurd h (no vs H Q E)⟩
end Sk
set_option Elab.async false
set_option linter.all false
set_option maxRecDepth 100000
set_option maxHeartbeats 1000000
namespace Sk
open PySem L2 Evl PySem.Spec PyProof.Rows
def tCFn (C : Addr) (sp : Sp) (E : XK) (t : TA) : TE := fun σ H Q => t σ H fun vs H2 => sp vs H2 Q E
section
variable {X : Cx} {CX : CXT} {k : Nat} {C g : Addr} {fd : FuncData} {ps : List Str} {mc : Value} {sp : Sp} {E : XK} {e : Expr} {es : List Expr} {x m : Str} {pos apos p : Pos} {t : TA} {pl : Sem Bool}
theorem pe_cfn (hg : Gl X x) (hm : X.mg x = some (.ref C)) (r : ClX.CRead X.K C mc) (c : ClX.CVal X.K C mc m (.ref g) (.ref g)) (kp : PySem.W.keepIn X.K (.ref g) = true) (F : FnOk X.prog X.w X.K X.mg X.base CX k g fd ps sp) (hr : Room k X.A) (hb : Binds X.K fd ps []) (hx : Passes CX X E) (ha : PA X (e :: es) t)
    (hdb : (x == ("__debug__" : Str)) = false := by decide)
    (hst : starEach (e :: es) X.env = (false, eval e X.env) :: starEach es X.env := by rfl) (hpl : (backTo pos (starEach es X.env)).any (·.1) = false := by rfl)
    (ht : eval (.Call (.Attribute (.Name x p) m apos) (e :: es) [] pos) X.env = (do
      let ov ← eval (.Name x p) X.env
      standAt apos.atName
      let (f, first) ← holding [ov] (getMethod ov m pl)
      callWith pos f first (backTo pos (starEach (e :: es) X.env)) (backToKw pos (keywordEach [] X.env))) := by rfl) :
    PE X (.Call (.Attribute (.Name x p) m apos) (e :: es) [] pos) (tCFn C sp E t) := by
  refine ⟨fun pins s σ H Q I h => ?_⟩
  refine PySem.W.methodCall_KW (pl := pl) (ld_glob I hg hm ?_ hdb) ht
  refine PySem.W.method_cls (I.tok _).kIn r.ga (ClX.getcval_ok (I.tok _) r c fun s2 I2 => ?_)
  refine PySem.W.callWith_K (h₀ := X.base) I.ok.mod.kin kp (thn (ha.run pos pins s2 σ H _ I2 h) fun us s1 ⟨vs, H1, I1, r, q⟩ => ⟨I1.kIn, ?_⟩) hst hpl
  exact run_fn F hr hb .nil hx I1 r (by rw [List.append_nil]; exact q)
end
/-- ReckonError.__init__(self, why, word) -/
def sp_rinit (K : PySem.W.Frag) : Sp := fun vs H Q _ => ∃ (a C : Addr) (u : V) (w : Str), vs = [.ref a, u, .str w] ∧ OexC K C ∧ PySem.W.findIn K (.ref C) "word" = some none ∧ H a = some (exo a C none) ∧ ∀ dx, H dx = none → dx ≠ a → Q .non (upd (upd H dx (exd dx [("word", .str w)])) a (exo a C (some dx)))
def t_rinit (K : PySem.W.Frag) : TS := tSeq (tDrop (tVeI K (tCons (tVar 0) (tCons (tVar 1) tNil)))) (tOst K "word" (tVar 0) (tVar 2))
theorem pure_rinit {K : PySem.W.Frag} {vs : List V} {H : Hp} {Q : VK} {E : XK} (h : sp_rinit K vs H Q E) : t_rinit K { nx := fun _ H' => Q .non H', rt := Q } (start ["self", "why", "word"] vs) H := by
  obtain ⟨a, C, u, w, rfl, T, hw, ha, k⟩ := h
  refine ⟨.ref a, rfl, u, rfl, a, C, [u], rfl, (by show 1 ≤ 1000; omega), T, ha, ?_⟩
  exact ⟨.str w, rfl, .ref a, rfl, a, C, rfl, T, hw, .inl ⟨ha, fun dx h1 h2 => k dx h1 h2⟩⟩
/-- X.__init__(self, why) -/
def sp_cinit (K : PySem.W.Frag) (w : Str) : Sp := fun vs H Q _ => ∃ (a C : Addr) (u : V), vs = [.ref a, u] ∧ OexC K C ∧ PySem.W.findIn K (.ref C) "word" = some none ∧ H a = some (exo a C none) ∧ ∀ dx, H dx = none → dx ≠ a → Q .non (upd (upd H dx (exd dx [("word", .str w)])) a (exo a C (some dx)))
def t_cinit (K : PySem.W.Frag) (aR : Addr) (w : Str) : TS := tDrop (tCFn aR (sp_rinit K) E0 (tCons (tVar 0) (tCons (tVar 1) (tCons (tC (.str w)) tNil))))
theorem pure_cinit {K : PySem.W.Frag} {aR : Addr} {w : Str} {vs : List V} {H : Hp} {Q : VK} {E : XK} (h : sp_cinit K w vs H Q E) : t_cinit K aR w { nx := fun _ H' => Q .non H', rt := Q } (start ["self", "why"] vs) H := by
  obtain ⟨a, C, u, rfl, T, hw, ha, k⟩ := h
  exact ⟨.ref a, rfl, u, rfl, a, C, u, w, rfl, T, hw, ha, fun dx h1 h2 => k dx h1 h2⟩
/-- an own error class that is raised: how it is made -/
structure ErrC (P : Program) (w : World) (K : PySem.W.Frag) (mg : Str → Option Value) (base : Heap) (x : Str) (C : Addr) : Prop where
  m : mg x = some (.ref C)
  T : OexC K C
  nm : nameIn K C = some x
  hw : PySem.W.findIn K (.ref C) "word" = some none
  i : ∃ (fI : Addr) (fd : FuncData), PySem.W.findIn K (.ref C) "__init__" = some (some (.ref fI)) ∧ PySem.W.typeIn K (.ref fI) = some (.type "function") ∧ Binds K fd ["self", "why"] [] ∧ FnOk P w K mg base CX0 2 fI fd ["self", "why"] (sp_cinit K (wordOf x))
section
variable {P : Program} {w : World} {K : PySem.W.Frag} {mg : Str → Option Value} {base : Heap} {x qual : Str} {st : Stmt} {f T C : Addr} {oc oc2 : Value} {od od2 an : Option Addr} {osl osl2 : Array (Option Value)} {kV doc pm cdv ct : Value} {n : Nat} {tk tk2 : Tok} {e1 e2 : Str}
theorem init_mk1 (hl : K.lookup f = some ⟨oc, od, .func (PySem.W.fnOf x qual (defArgs st) (defBody st) (defScope st) (.ref T) kV doc pm an cdv ct), osl⟩) (hT : K.lookup T = some ⟨oc2, od2, .seq #[.str e1 tk] n, osl2⟩) (hc : PySem.W.codeIn K cdv qual = true) (hk : PySem.W.keepIn K (.ref f) = true) :
    FunD K x qual (defArgs st) (defBody st) (defScope st) [.str e1] [] f (PySem.W.fnOf x qual (defArgs st) (defBody st) (defScope st) (.ref T) kV doc pm an cdv ct) :=
  ⟨⟨oc, od, _, kV, doc, pm, an, cdv, ct, osl, rfl, hl, hc, .inr ⟨by simp, T, _, [.str e1 tk], n, rfl, hT, rfl, .cons ⟨tk, rfl⟩ .nil⟩, .inl rfl⟩, hk⟩
theorem init_mk2 (hl : K.lookup f = some ⟨oc, od, .func (PySem.W.fnOf x qual (defArgs st) (defBody st) (defScope st) (.ref T) kV doc pm an cdv ct), osl⟩) (hT : K.lookup T = some ⟨oc2, od2, .seq #[.str e1 tk, .str e2 tk2] n, osl2⟩) (hc : PySem.W.codeIn K cdv qual = true) (hk : PySem.W.keepIn K (.ref f) = true) :
    FunD K x qual (defArgs st) (defBody st) (defScope st) [.str e1, .str e2] [] f (PySem.W.fnOf x qual (defArgs st) (defBody st) (defScope st) (.ref T) kV doc pm an cdv ct) :=
  ⟨⟨oc, od, _, kV, doc, pm, an, cdv, ct, osl, rfl, hl, hc, .inr ⟨by simp, T, _, [.str e1 tk, .str e2 tk2], n, rfl, hT, rfl, .cons ⟨tk, rfl⟩ (.cons ⟨tk2, rfl⟩ .nil)⟩, .inl rfl⟩, hk⟩
theorem binds_full {l : List V} {fd : FuncData} {ps : List Str} (h : ∃ ds, Vals l ds ∧ Binds K fd ps ds) (hl : l = []) : Binds K fd ps [] := by
  subst hl
  obtain ⟨ds, h1, h2⟩ := h
  cases h1
  exact h2
theorem oex_mk {nm q : Str} {N : Addr} {bs bm sub : List Value} {sn : List Str} {ab : Bool} {col : Option Bool} {dd : Option Addr} {k0 k1 k2 k3 k5 : Option Value} (hl : K.lookup C = some (excClassObj nm q C N bs bm true sn sub ab col dd k0 k1 k2 k3 k5 "ValueError.__new__")) (hr : PySem.HandSPX.refsVE bm = true)
    (sa : PySem.W.findIn K (.ref C) "__setattr__" = some (some (.builtin "object.__setattr__"))) (A : ClsAt K mg x C) : OexC K C ∧ nameIn K C = some nm :=
  ⟨⟨⟨_, _, _, _, _, _, _, _, _, _, _, _, _, _, _, hl, hr⟩, sa, A.sb, A.ty, A.k⟩, by unfold nameIn PySem.W.clsIn; rw [hl] <;> rfl⟩
end
end Sk
set_option Elab.async false
set_option linter.all false
set_option maxRecDepth 100000
set_option maxHeartbeats 2000000
namespace Sk
open PySem L2 Evl
def T.lead : T → Int
  | .nil => -2
  | .cons _ e _ => e.val
def T.can : T → Prop
  | .nil => True
  | .cons s e r => ((s = 1 ∨ s = -1) ∧ 0 ≤ e.val ∧ r.lead + 2 ≤ e.val) ∧ e.can ∧ r.can
/-- from the list of the terms -/
theorem can_ofL : ∀ {l : List (Int × T)}, (∀ x ∈ l, (x.1 = 1 ∨ x.1 = -1) ∧ 0 ≤ x.2.val ∧ x.2.can) → l.Pairwise (fun x y => y.2.val + 2 ≤ x.2.val) → (ofL l).can
  | [], _, _ => True.intro
  | (s, e) :: r, h, hp => by
    have h0 := h (s, e) List.mem_cons_self
    have hp' := List.pairwise_cons.mp hp
    refine ⟨⟨h0.1, h0.2.1, ?_⟩, h0.2.2, can_ofL (fun x hx => h x (List.mem_cons_of_mem _ hx)) hp'.2⟩
    cases r with
    | nil => have := h0.2.1; show -2 + 2 ≤ e.val; exact this
    | cons y r => exact hp'.1 y List.mem_cons_self
theorem naf_gap : ∀ (k : Nat) (n : Int), n.natAbs ≤ k → ∀ p, (naf n p).Pairwise (fun x y => x.2 + 2 ≤ y.2)
  | 0, n, hk, p => by
    have : n = 0 := by omega
    subst this; rw [naf_zero]; exact List.Pairwise.nil
  | k + 1, n, hk, p => by
    by_cases h0 : n = 0
    · subst h0; rw [naf_zero]; exact List.Pairwise.nil
    rcases Int.emod_two_eq n with h | h
    · rw [naf_even h]
      exact naf_gap k _ (by omega) _
    · rw [naf_odd h]
      refine List.pairwise_cons.mpr ⟨fun y hy => ?_, ?_⟩
      · have hev : (n - (2 - n % 4)) / 2 % 2 = 0 := by omega
        rw [naf_even hev] at hy
        exact (naf_mem_ge _ _ (Nat.le_refl _) (p + 1 + 1) y hy).1
      · by_cases hz : (n - (2 - n % 4)) / 2 = 0
        · rw [hz, naf_zero]; exact List.Pairwise.nil
        · exact naf_gap k _ (by omega) _
theorem toT_can_aux : ∀ (k : Nat) (n : Int), n.natAbs ≤ k → (toT n).can
  | k, n, hk => by
    rw [toT_eq]
    refine can_ofL (fun x hx => ?_) ?_
    · obtain ⟨y, hy, rfl⟩ := List.mem_map.mp hx
      have hy := List.mem_reverse.mp hy
      have hlt := naf_lt hy
      refine ⟨naf_sign hy, by show 0 ≤ (toT (y.2 : Int)).val; rw [toT_val]; omega, ?_⟩
      cases k with
      | zero => omega
      | succ k => exact toT_can_aux k _ (by simp; omega)
    · rw [List.pairwise_map, List.pairwise_reverse]
      refine (naf_gap _ n (Nat.le_refl _) 0).imp fun {x y} h => ?_
      show (toT (x.2 : Int)).val + 2 ≤ (toT (y.2 : Int)).val
      rw [toT_val, toT_val]
      omega
theorem toT_can (n : Int) : (toT n).can := toT_can_aux _ n (Nat.le_refl _)
end Sk
set_option Elab.async false
set_option linter.all false
set_option maxRecDepth 100000
set_option maxHeartbeats 2000000
namespace Sk
open PySem L2 Evl
def kall (f : Value → Option PyData) : List Value → Option (List PyData)
  | [] => some []
  | v :: r => match f v, kall f r with
    | some d, some ds => some (d :: ds)
    | _, _ => none
def kdat (K : PySem.W.Frag) : Nat → Value → Option PyData
  | 0, _ => none
  | n + 1, .int i _ => some (.int i)
  | n + 1, .str x _ => some (.str x)
  | n + 1, .ref a => match K.lookup a with
    | some ⟨.type "tuple", none, .seq its _, _⟩ => if its.size ≤ 1000 then (kall (kdat K n) its.toList).map PyData.tuple else none
    | _ => none
  | _, _ => none
theorem kall_dp {K : PySem.W.Frag} {f : Value → Option PyData} (hf : ∀ v d, f v = some d → ∃ x, RelV x v ∧ ∀ H, Dp K H x d) : ∀ (vs : List Value) (ds : List PyData), kall f vs = some ds → ∃ xs, Vals xs vs ∧ ∀ H, DpAll K H xs ds
  | [], ds, h => by cases h; exact ⟨[], .nil, fun H => .nil⟩
  | v :: r, ds, h => by
    unfold kall at h
    split at h
    · rename_i d ds' h1 h2
      cases h
      obtain ⟨x, r1, d1⟩ := hf v d h1
      obtain ⟨xs, r2, d2⟩ := kall_dp hf r ds' h2
      exact ⟨x :: xs, .cons r1 r2, fun H => .cons (d1 H) (d2 H)⟩
    · cases h
theorem kdat_dp {K : PySem.W.Frag} : ∀ (n : Nat) (v : Value) (d : PyData), kdat K n v = some d → ∃ x, RelV x v ∧ ∀ H, Dp K H x d
  | 0, v, d, h => by cases h
  | n + 1, v, d, h => by
    unfold kdat at h
    split at h
    · cases h
    · cases h; exact ⟨.int _, ⟨_, rfl⟩, fun H => .int _⟩
    · cases h; exact ⟨.str _, ⟨_, rfl⟩, fun H => .str _⟩
    · rename_i n' a hn
      cases hn
      split at h
      · rename_i its z sl hk
        split at h
        · rename_i hz
          cases hq : kall (kdat K n) its.toList with
          | none => rw [hq] at h; cases h
          | some ds =>
            rw [hq] at h
            cases h
            obtain ⟨xs, r2, d2⟩ := kall_dp (kdat_dp n) _ _ hq
            exact ⟨.ref a, rfl, fun H => .tup (.inr ⟨_, its, z, hk, rfl, rfl, Nat.le_trans hz (by decide), r2⟩) (d2 H)⟩
        · cases h
      · cases h
    · cases h
theorem kdat_ref {K : PySem.W.Frag} {n : Nat} {a : Addr} {d : PyData} (h : kdat K n (.ref a) = some d) : ∀ H, Dp K H (.ref a) d := by
  obtain ⟨x, r, k⟩ := kdat_dp n _ d h
  cases x <;> first | (cases r; done) | (obtain ⟨_, r⟩ := r; cases r) | skip
  rename_i b
  cases r
  exact k
/-- the first eight numbers -/
def firstT : List T := [.nil, ofL [(1, .nil)], ofL [(1, ofL [(1, .nil)])], ofL [(1, ofL [(1, ofL [(1, .nil)])]), (-1, .nil)], ofL [(1, ofL [(1, ofL [(1, .nil)])])], ofL [(1, ofL [(1, ofL [(1, .nil)])]), (1, .nil)],
  ofL [(1, ofL [(1, ofL [(1, ofL [(1, .nil)])]), (-1, .nil)]), (-1, ofL [(1, .nil)])], ofL [(1, ofL [(1, ofL [(1, ofL [(1, .nil)])]), (-1, .nil)]), (-1, .nil)]]
def firstD : PyData := .tuple (firstT.map T.data)
/-- a written tuple -/
def TupAt (K : PySem.W.Frag) (a : Addr) : Prop := ∃ o, K.lookup a = some o ∧ o.cls = .type "tuple" ∧ o.dict = none
/-- the written tuple at a is that of the first numbers -/
def FirstAt (K : PySem.W.Frag) (a : Addr) : Prop := (∀ H, Dp K H (.ref a) firstD) ∧ TupAt K a
theorem FirstAt.out {K : PySem.W.Frag} {a : Addr} (h : FirstAt K a) (H : Hp) : ∃ xs, SqT K H a xs ∧ ItemsR (fun t v H => NumV K H v t) firstT xs H := by
  have h1 := h.1 H
  unfold firstD at h1
  cases h1 with
  | tup hs hd =>
    rename_i xs
    refine ⟨xs, hs, ?_⟩
    have key : ∀ (l : List T) (xs : List V), DpAll K H xs (l.map T.data) → ItemsR (fun t v H => NumV K H v t) l xs H := by
      intro l
      induction l with
      | nil => intro xs h; cases h; exact .nil
      | cons t r ih =>
        intro xs h
        cases h with
        | cons g1 g2 =>
          have := ih _ g2
          refine ⟨by rw [List.length_cons, List.length_cons, this.1], fun i y a h1 h2 => ?_⟩
          cases i with
          | zero => simp at h1 h2; subst h1 h2; exact g1
          | succ i => simp at h1 h2; exact this.2 i y a h1 h2
    exact key _ _ hd
end Sk
set_option Elab.async false
set_option linter.all false
set_option maxRecDepth 100000
set_option maxHeartbeats 1000000
namespace Sk
open PySem L2 Evl PySem.Spec PyProof.Rows
def KdAt (K : PySem.W.Frag) (a : Addr) (l : List (Str × V)) : Prop := ∀ z, (l.lookup z = none ∧ PySem.W.nsIn K a z = some none) ∨ ∃ v u, l.lookup z = some v ∧ PySem.W.nsIn K a z = some (some u) ∧ RelV v u
def EntR (p : Str × V) (e : DictEntry) : Prop := ∃ t, e.key = .str p.1 t ∧ RelV p.2 e.val
theorem kd_find : ∀ {l : List (Str × V)} {es : List DictEntry}, Paired EntR l es → ∀ z, (l.lookup z = none ∧ es.find? (·.key.isStr z) = none) ∨ ∃ v e, l.lookup z = some v ∧ es.find? (·.key.isStr z) = some e ∧ RelV v e.val
  | [], [], _, z => .inl ⟨rfl, rfl⟩
  | (x, v) :: l, e :: es, h, z => by
    cases h with
    | cons h1 h2 =>
      obtain ⟨t, hk, hv⟩ := h1
      rw [List.find?_cons, List.lookup_cons]
      have hs : e.key.isStr z = (x == z) := by rw [hk]; rfl
      rw [hs]
      by_cases hx : z = x
      · subst hx
        rw [beq_self_eq_true]
        exact .inr ⟨v, e, rfl, rfl, hv⟩
      · have e1 : (z == x) = false := beq_eq_false_iff_ne.mpr hx
        have e2 : (x == z) = false := beq_eq_false_iff_ne.mpr fun h => hx h.symm
        rw [e1, e2]
        exact kd_find h2 z
theorem kd_ref : ∀ {l : List (Str × V)} {es : List DictEntry}, Paired EntR l es → es.any (·.refKey) = false
  | [], [], _ => rfl
  | (x, v) :: l, e :: es, h => by
    cases h with
    | cons h1 h2 =>
      obtain ⟨t, hk, hv⟩ := h1
      rw [List.any_cons, kd_ref h2, Bool.or_false]
      unfold DictEntry.refKey
      rw [hk]
theorem kd_at {K : PySem.W.Frag} {a : Addr} {es : Array DictEntry} {n : Nat} {l : List (Str × V)} (hl : K.lookup a = some ⟨.type "dict", none, .dict es n, #[]⟩) (he : Paired EntR l es.toList) : KdAt K a l := fun z => by
  unfold PySem.W.nsIn
  rw [hl]
  dsimp only
  rcases kd_find he z with ⟨h1, h2⟩ | ⟨v, e, h1, h2, h3⟩
  · rw [h2, kd_ref he]
    exact .inl ⟨h1, rfl⟩
  · rw [h2]
    exact .inr ⟨v, e.val, h1, rfl, h3⟩
theorem kd_dict {K : PySem.W.Frag} {w : World} {a : Addr} {es : Array DictEntry} {n : Nat} (hl : K.lookup a = some ⟨.type "dict", none, .dict es n, #[]⟩) (hk : PySem.W.KeysLit w.params es.toList) (lo : (a == sysModules) = false) : KDict K w a es n := ⟨hl, hk, lo⟩
def rInKD (d : Addr) (l : List (Str × V)) : R2 := fun x y H Q => ∃ z, x = .str z ∧ y = .ref d ∧ Q (.bl (l.lookup z).isSome) H
def rIxKD (d : Addr) (l : List (Str × V)) : R2 := fun x y H Q => ∃ z v, x = .ref d ∧ y = .str z ∧ l.lookup z = some v ∧ Q v H
def tKGet2 (d : Addr) (l : List (Str × V)) (td ty tx : TE) : TE := fun σ H Q => td σ H fun x H1 => x = .ref d ∧ ty σ H1 fun y H2 => tx σ H2 fun z H3 => ∃ s, y = .str s ∧ Q ((l.lookup s).getD z) H3
section
variable {X : Cx} {d : Addr} {es : Array DictEntry} {n : Nat} {l : List (Str × V)}
theorem op_inKD (D : KDict X.K X.w d es n) (A : KdAt X.K d l) : OpR X (compareOp .In) (rInKD d l) := by
  intro pins s σ H x y v u Q I rx ry h
  obtain ⟨z, rfl, rfl, q⟩ := h
  rcases A z with ⟨h1, h2⟩ | ⟨v0, u0, h1, h2, h3⟩
  · exact op_in_kd D pins s σ H _ _ v u Q I rx ry ⟨z, none, rfl, rfl, h2, by rw [h1] at q; exact q⟩
  · exact op_in_kd D pins s σ H _ _ v u Q I rx ry ⟨z, some u0, rfl, rfl, h2, by rw [h1] at q; exact q⟩
theorem ix_KD (D : KDict X.K X.w d es n) (A : KdAt X.K d l) : IxR X (rIxKD d l) := by
  intro value slice pins s σ H x y v u Q I rx ry h hs
  obtain ⟨z, r, rfl, rfl, e, q⟩ := h
  rcases A z with ⟨h1, h2⟩ | ⟨v0, u0, h1, h2, h3⟩
  · rw [h1] at e; cases e
  · rw [h1] at e; cases e
    exact ix_kdict (X := X) value slice pins s σ H _ _ v u Q I rx ry ⟨d, z, r, rfl, rfl, ⟨es, n, u0, D.at_, D.lit, h2, h3⟩, q⟩ hs
variable {o e f : Expr} {td ty tx : TE} {apos cpos : Pos}
theorem pe_kget2 (D : KDict X.K X.w d es n) (A : KdAt X.K d l) (ho : PE X o td) (he : PE X e ty) (hf : PE X f tx) (m : M2 X o "get" apos e f cpos) : PE X (.Call (.Attribute o "get" apos) [e, f] [] cpos) (tKGet2 d l td ty tx) := by
  refine ⟨fun pins s σ H Q I h => ?_⟩
  refine wpAny_Call_method m.base m.few m.line PySem.F.plainAttrs_dict PySem.F.slot_dict_get PySem.F.type_dict_get (thn (ho.run pins s σ H _ I h) fun u s1 ⟨x, H1, I1, rx, ex, q1⟩ => ?_)
  subst ex
  obtain rfl : u = Value.ref d := rx
  have hm1 := PySem.W.mapOf_K (prog := X.prog) (w := X.w) I1.kIn D.at_ D.lit
  refine ⟨hm1.typeIs, fun b q => ?_, ?_⟩
  · cases q
    exact ⟨_, I1.kIn _ _ D.at_, rfl⟩
  rw [m.trees]
  refine Calls.callWith_builtin rfl (Calls.evalArgs_plain (Calls.spliced_cons (thn (he.run pins s1 σ H1 _ I1 q1) fun iv s2 ⟨y, H2, I2, ry, q2⟩ =>
    Calls.spliced_cons (thn (hf.run pins s2 σ H2 _ I2 q2) fun fv s3 ⟨z, H3, I3, rz, k, ek, q3⟩ => Calls.spliced_nil ?_))))
  subst ek
  obtain ⟨t, rfl⟩ := (show ∃ t, iv = Value.str k t from ry)
  have hm3 := PySem.W.mapOf_K (prog := X.prog) (w := X.w) I3.kIn D.at_ D.lit
  refine call_meetsIn PySem.F.slot_dict_get hm3.typeIs PySem.F.entry_dict_get (PySem.F.args_dict_get_3 _ _ _) (meets_dict_get_default (strKind X.prog X.w) d (strKind_is X.prog X.w k t) D.low fv) ⟨_, hm3, ?_⟩
  rcases A k with ⟨h1, h2⟩ | ⟨v0, u0, h1, h2, h3⟩
  · rw [PySem.W.find_K D.at_ h2]
    rw [h1] at q3
    exact ⟨z, H3, I3.tok _, rz, q3⟩
  · rw [PySem.W.find_K D.at_ h2]
    rw [h1] at q3
    exact ⟨v0, H3, I3.tok _, h3, q3⟩
end
section
variable {K : PySem.W.Frag} {σ : L2.St} {H : Hp} {te tf tg : TE} {d : Addr} {l : List (Str × V)} {z : Str} {v : V}
theorem ev_inKD (h : Ev te σ H (.str z)) : Ev (tOp (rInKD d l) te (tC (.ref d))) σ H (.bl (l.lookup z).isSome) := ev_op h ev_c fun H1 _ Q q => ⟨z, rfl, rfl, q H1 (Ex.refl _)⟩
theorem ev_ixKD (h : Ev te σ H (.str z)) (hv : l.lookup z = some v) : Ev (tOp (rIxKD d l) (tC (.ref d)) te) σ H v := ev_op ev_c h fun H1 _ Q q => ⟨z, v, rfl, rfl, hv, q H1 (Ex.refl _)⟩
theorem ev_kget2 (h : Ev te σ H (.str z)) (h' : Ev tf σ H v) : Ev (tKGet2 d l (tC (.ref d)) te tf) σ H ((l.lookup z).getD v) := fun H1 e Q q => ⟨rfl, h H1 e _ fun H2 e2 => h' H2 (e.trans e2) _ fun H3 e3 => ⟨z, rfl, q H3 (e2.trans e3)⟩⟩
end
/-- a method of a class, where it stands -/
structure MetAt (K : PySem.W.Frag) (C : Addr) (m q : Str) (st : Stmt) (ps : List Str) (f : Addr) (fd : FuncData) : Prop where
  fn : Fun K m q st f fd
  b : Binds K fd ps []
  hm : Meth K C m f
end Sk
set_option Elab.async false
set_option linter.all false
set_option maxRecDepth 100000
set_option maxHeartbeats 1000000
namespace Sk
open PySem PySem.Spec PyProof.Rows L2
/-- the objects at some places -/
def frN (n : List Nat) (g : Addr → Option Obj) : PySem.W.Frag := He.frG g n
def bAll : List Bool → Bool
  | [] => true
  | b :: l => b && bAll l
theorem bAll_at : ∀ {l : List Bool}, bAll l = true → ∀ (i : Nat) {b : Bool}, l[i]? = some b → b = true
  | [], _, i, b, e => by cases e
  | c :: l, h, 0, b, e => by cases e; exact (Bool.and_eq_true_iff.mp h).1
  | c :: l, h, i + 1, b, e => bAll_at (Bool.and_eq_true_iff.mp h).2 i e
abbrev AlN : Type := He.AlT × Bool
def obsN (n : List Nat) (fn : List He.DefD) (ts : List He.Tab) (ex : PySem.W.Frag → List Bool) (g : Addr → Option Obj) : AlN := (He.obsT [] fn ts (frN n g), bAll (ex (frN n g)))
def hookN (n : List Nat) (fn : List He.DefD) (ts : List He.Tab) (ex : PySem.W.Frag → List Bool) : PySem.W.Hook where
  α := AlN
  obs := fun s => obsN n fn ts ex s.heap.get?
  val := fun w => (He.valT fn ts w, true)
  says := fun w h => ∃ K : PySem.W.Frag, K.In h ∧ He.SaysT [] fn ts w K ∧ bAll (ex K) = true
  of := fun _ _ e => ⟨_, He.frG_in, congrArg (fun z : AlN => z.1) e, congrArg (fun z : AlN => z.2) e⟩
  keeps := fun _ _ _ ⟨K, hK, c⟩ k => ⟨K, PySem.W.Frag.In.keeps hK k, c⟩
def obN (n : List Nat) (fn : List He.DefD) (ts : List He.Tab) (ex : PySem.W.Frag → List Bool) (s : PySem.W.SharedT) : AlN := obsN n fn ts ex (HandSHeadRun.getT s)
theorem obN_eq {n : List Nat} {fn : List He.DefD} {ts : List He.Tab} {ex : PySem.W.Frag → List Bool} (s : PySem.W.SharedT) : obN n fn ts ex s = (hookN n fn ts ex).obs s.abs := by
  have e : HandSHeadRun.getT s = s.abs.heap.get? := funext (HandSHeadRun.getT_eq s)
  unfold obN
  rw [e]
  rfl
section
variable {K : PySem.W.Frag} {x q : Str} {ps : Arguments} {b : List Stmt} {sc : Scope} {f : Addr} {fd : FuncData} {v : V} {v2 : V}
theorem dfl_none {dV : Value} (h : DflV K dV []) : dV = .none := by
  rcases h with ⟨_, h⟩ | ⟨h, _⟩
  · exact h
  · exact absurd rfl h
theorem fun0 (F : FunD K x q ps b sc [] [] f fd) : ∃ oc od osl kV doc pm an cdv ct, K.lookup f = some ⟨oc, od, .func (PySem.W.fnOf x q ps b sc .none kV doc pm an cdv ct), osl⟩ ∧ PySem.W.codeIn K cdv q = true ∧ PySem.W.keepIn K (.ref f) = true := by
  obtain ⟨⟨oc, od, dV, kV, doc, pm, an, cdv, ct, osl, rfl, lk, cd, df, _⟩, kp⟩ := F
  rw [dfl_none df] at lk
  exact ⟨oc, od, osl, kV, doc, pm, an, cdv, ct, lk, cd, kp⟩
theorem funS {z : Str} (F : FunD K x q ps b sc [.str z] [] f fd) : ∃ oc od osl T kV doc pm an cdv ct oc2 od2 osl2 n tk, K.lookup f = some ⟨oc, od, .func (PySem.W.fnOf x q ps b sc (.ref T) kV doc pm an cdv ct), osl⟩ ∧ K.lookup T = some ⟨oc2, od2, .seq #[.str z tk] n, osl2⟩ ∧ PySem.W.codeIn K cdv q = true ∧ PySem.W.keepIn K (.ref f) = true := by
  obtain ⟨⟨oc, od, dV, kV, doc, pm, an, cdv, ct, osl, rfl, lk, cd, df, _⟩, kp⟩ := F
  rcases df with ⟨h, _⟩ | ⟨_, T, ⟨oc2, od2, dt, osl2⟩, its, n, rfl, hT, hd, hv⟩
  · cases h
  · cases hv with
    | cons h1 h2 =>
      cases h2
      obtain ⟨tk, rfl⟩ := h1
      have hd : dt = .seq #[.str z tk] n := hd
      subst hd
      exact ⟨oc, od, osl, T, kV, doc, pm, an, cdv, ct, oc2, od2, osl2, n, tk, lk, hT, cd, kp⟩
theorem funS2 {z z2 : Str} (F : FunD K x q ps b sc [.str z, .str z2] [] f fd) : ∃ oc od osl T kV doc pm an cdv ct oc2 od2 osl2 n tk tk2, K.lookup f = some ⟨oc, od, .func (PySem.W.fnOf x q ps b sc (.ref T) kV doc pm an cdv ct), osl⟩ ∧ K.lookup T = some ⟨oc2, od2, .seq #[.str z tk, .str z2 tk2] n, osl2⟩ ∧ PySem.W.codeIn K cdv q = true ∧ PySem.W.keepIn K (.ref f) = true := by
  obtain ⟨⟨oc, od, dV, kV, doc, pm, an, cdv, ct, osl, rfl, lk, cd, df, _⟩, kp⟩ := F
  rcases df with ⟨h, _⟩ | ⟨_, T, ⟨oc2, od2, dt, osl2⟩, its, n, rfl, hT, hd, hv⟩
  · cases h
  · cases hv with
    | cons h1 h2 =>
      cases h2 with
      | cons h3 h4 =>
        cases h4
        obtain ⟨tk, rfl⟩ := h1
        obtain ⟨tk2, rfl⟩ := h3
        have hd : dt = .seq #[.str z tk, .str z2 tk2] n := hd
        subst hd
        exact ⟨oc, od, osl, T, kV, doc, pm, an, cdv, ct, oc2, od2, osl2, n, tk, tk2, lk, hT, cd, kp⟩
def conN (K : PySem.W.Frag) (x : Str) (v : V) : Bool := match PySem.W.nsIn K mainGlobals x with
  | some (some u) => He.relB v u
  | _ => false
theorem conN_I {i : Int} (h : conN K x (.int i) = true) : ∃ t, PySem.W.nsIn K mainGlobals x = some (some (.int i t)) := by
  unfold conN at h
  split at h
  · rename_i u e
    obtain ⟨t, rfl⟩ := He.relB_ok h
    exact ⟨t, e⟩
  · cases h
theorem conN_S {z : Str} (h : conN K x (.str z) = true) : ∃ t, PySem.W.nsIn K mainGlobals x = some (some (.str z t)) := by
  unfold conN at h
  split at h
  · rename_i u e
    obtain ⟨t, rfl⟩ := He.relB_ok h
    exact ⟨t, e⟩
  · cases h
mutual
def pdB : PyData → PyData → Bool
  | .int i, .int j => decide (i = j)
  | .str x, .str y => decide (x = y)
  | .tuple l, .tuple m => pdL l m
  | _, _ => false
def pdL : List PyData → List PyData → Bool
  | [], [] => true
  | d :: l, e :: m => pdB d e && pdL l m
  | _, _ => false
end
mutual
theorem pdB_ok : ∀ {d e : PyData}, pdB d e = true → d = e
  | .int i, e, h => by
    cases e with
    | int j => rw [of_decide_eq_true (show decide (i = j) = true from h)]
    | _ => cases h
  | .str x, e, h => by
    cases e with
    | str y => rw [of_decide_eq_true (show decide (x = y) = true from h)]
    | _ => cases h
  | .tuple l, e, h => by
    cases e with
    | tuple m => rw [pdL_ok (show pdL l m = true from h)]
    | _ => cases h
  | .none, e, h => by cases e <;> cases h
  | .bool _, e, h => by cases e <;> cases h
  | .list _, e, h => by cases e <;> cases h
  | .dict _, e, h => by cases e <;> cases h
theorem pdL_ok : ∀ {l m : List PyData}, pdL l m = true → l = m
  | [], [], _ => rfl
  | [], _ :: _, h => by cases h
  | _ :: _, [], h => by cases h
  | d :: l, e :: m, h => by
    obtain ⟨h1, h2⟩ := Bool.and_eq_true_iff.mp (show (pdB d e && pdL l m) = true from h)
    rw [pdB_ok h1, pdL_ok h2]
end
def datN (K : PySem.W.Frag) (n : Nat) (a : Addr) (d : PyData) : Bool := match kdat K n (.ref a) with
  | some e => pdB e d
  | none => false
theorem datN_ok {n : Nat} {a : Addr} {d : PyData} (h : datN K n a d = true) : kdat K n (.ref a) = some d := by
  unfold datN at h
  split at h
  · rename_i e he
    rw [he, pdB_ok h]
  · cases h
def entL : List (Str × V) → List DictEntry → Bool
  | [], [] => true
  | p :: l, e :: m => (match e.key with
    | .str z _ => decide (p.1 = z) && He.relB p.2 e.val
    | _ => false) && entL l m
  | _, _ => false
theorem entL_ok : ∀ {l : List (Str × V)} {m : List DictEntry}, entL l m = true → Paired EntR l m
  | [], [], _ => .nil
  | [], _ :: _, h => by cases h
  | _ :: _, [], h => by cases h
  | p :: l, e :: m, h => by
    obtain ⟨h1, h2⟩ := Bool.and_eq_true_iff.mp (show ((match e.key with
      | .str z _ => decide (p.1 = z) && He.relB p.2 e.val
      | _ => false) && entL l m) = true from h)
    refine .cons ?_ (entL_ok h2)
    split at h1
    · rename_i z t hk
      obtain ⟨h3, h4⟩ := Bool.and_eq_true_iff.mp h1
      exact ⟨t, by rw [hk, of_decide_eq_true h3], He.relB_ok h4⟩
    · cases h1
def entN (K : PySem.W.Frag) (a : Addr) (l : List (Str × V)) : Bool := match K.lookup a with
  | some ⟨_, _, .dict es _, _⟩ => entL l es.toList
  | _ => false
theorem entN_ok {a : Addr} {l : List (Str × V)} {es : Array DictEntry} {n : Nat} (hl : K.lookup a = some ⟨.type "dict", none, .dict es n, #[]⟩) (h : entN K a l = true) : Paired EntR l es.toList := by
  unfold entN at h
  rw [hl] at h
  exact entL_ok h
def fndN (K : PySem.W.Frag) (c : Value) (m : Str) (v : Value) : Bool := match PySem.W.findCls K c (.type "type") m with
  | some (.val u) => decide (u = v)
  | _ => false
theorem fndN_ok {c v : Value} {m : Str} (h : fndN K c m v = true) : PySem.W.findCls K c (.type "type") m = some (.val v) := by
  unfold fndN at h
  split at h
  · rename_i u e
    rw [e, of_decide_eq_true h]
  · cases h
def errN (K : PySem.W.Frag) (C : Addr) (nm : Str) : Bool := match K.lookup C with
  | some ⟨.type t, _, .cls ⟨n0, _, .ref C' :: bm, _, _, hd, _, _, _, _, del⟩, ⟨[_, _, _, _, some (.builtin n), _]⟩⟩ => decide (t = "type") && (decide (n0 = nm) && (decide (C' = C) && (hd && (!del && (PySem.HandSPX.refsVE bm && decide (n = "ValueError.__new__"))))))
  | _ => false
theorem errN_ok {C : Addr} {nm : Str} (h : errN K C nm = true) : ∃ q N bs bm sn sub ab col dd k0 k1 k2 k3 k5, K.lookup C = some (excClassObj nm q C N bs bm true sn sub ab col dd k0 k1 k2 k3 k5 "ValueError.__new__") ∧ PySem.HandSPX.refsVE bm = true := by
  unfold errN at h
  split at h
  · rename_i t dd n0 bs C' bm N q hd sn sub ab col del k0 k1 k2 k3 n k5 e
    obtain ⟨h1, h⟩ := Bool.and_eq_true_iff.mp h
    obtain ⟨h2, h⟩ := Bool.and_eq_true_iff.mp h
    obtain ⟨h3, h⟩ := Bool.and_eq_true_iff.mp h
    obtain ⟨h4, h⟩ := Bool.and_eq_true_iff.mp h
    obtain ⟨h5, h⟩ := Bool.and_eq_true_iff.mp h
    obtain ⟨h6, h7⟩ := Bool.and_eq_true_iff.mp h
    have e1 := of_decide_eq_true h1
    have e2 := of_decide_eq_true h2
    have e3 := of_decide_eq_true h3
    have e5 : del = false := by cases del; rfl; cases h5
    have e7 := of_decide_eq_true h7
    subst e1 e2 e3 h4 e5 e7
    exact ⟨q, N, bs, bm, sn, sub, ab, col, dd, k0, k1, k2, k3, k5, e, h6⟩
  · cases h
end
end Sk
namespace Sk
open PySem PySem.Spec PyProof.Rows L2 Evl
def top (i : Nat) : Stmt := PySem.Challenge.pw_sandreckoner_k26_formulas_read.main.body.getD i (.Pass ⟨0, 0, 0, 0⟩)
abbrev s_c_ReckonError : Stmt := inClass (top 1) 0
abbrev s_c_BadForm : Stmt := inClass (top 2) 0
abbrev s_run_of : Stmt := top 9
abbrev s_token_at : Stmt := top 10
abbrev s_tokens : Stmt := top 11
abbrev s_is_name : Stmt := top 22
abbrev s_is_integer : Stmt := top 23
abbrev s_deeper : Stmt := top 24
abbrev s_Reader_init : Stmt := inClass (top 25) 0
abbrev s_Reader_ahead : Stmt := inClass (top 25) 1
abbrev s_Reader_take : Stmt := inClass (top 25) 2
abbrev s_Reader_skip : Stmt := inClass (top 25) 3
abbrev s_Reader_demand : Stmt := inClass (top 25) 4
abbrev s_Reader_read_args : Stmt := inClass (top 25) 10
abbrev s_Reader_read_part : Stmt := inClass (top 25) 9
abbrev s_Reader_read_sign : Stmt := inClass (top 25) 8
abbrev s_Reader_read_product : Stmt := inClass (top 25) 7
abbrev s_Reader_read_sum : Stmt := inClass (top 25) 6
abbrev s_Reader_check_end : Stmt := inClass (top 25) 5
abbrev s_read_formula : Stmt := top 26
abbrev s_unrolled : Stmt := top 27
abbrev s_trees_in : Stmt := top 28
abbrev s_names_of : Stmt := top 29
abbrev s_operand_text : Stmt := top 35
abbrev s_single_text : Stmt := top 36
abbrev s_plain_text : Stmt := top 34
abbrev s_law_row : Stmt := top 38
abbrev s_law_at : Stmt := top 39
abbrev s_law_next : Stmt := top 40
abbrev s_law_tree : Stmt := top 41
abbrev s_law_rank : Stmt := top 42
abbrev s_law_plain26 : Stmt := top 44
abbrev s_law_operand : Stmt := top 43
abbrev s_law_levels26 : Stmt := top 45
abbrev s_law_names26 : Stmt := top 46
abbrev s_law_once26 : Stmt := top 47
abbrev s_law : Stmt := top 48
def d_run_of : He.DefD := ⟨("run_of", none), "run_of", "run_of", defArgs s_run_of, defBody s_run_of, defScope s_run_of, [], []⟩
def d_token_at : He.DefD := ⟨("token_at", none), "token_at", "token_at", defArgs s_token_at, defBody s_token_at, defScope s_token_at, [], []⟩
def d_tokens : He.DefD := ⟨("tokens", none), "tokens", "tokens", defArgs s_tokens, defBody s_tokens, defScope s_tokens, [], []⟩
def d_is_name : He.DefD := ⟨("is_name", none), "is_name", "is_name", defArgs s_is_name, defBody s_is_name, defScope s_is_name, [], []⟩
def d_is_integer : He.DefD := ⟨("is_integer", none), "is_integer", "is_integer", defArgs s_is_integer, defBody s_is_integer, defScope s_is_integer, [], []⟩
def d_deeper : He.DefD := ⟨("deeper", none), "deeper", "deeper", defArgs s_deeper, defBody s_deeper, defScope s_deeper, [], []⟩
def d_Reader_init : He.DefD := ⟨("Reader", some "__init__"), "__init__", "Reader.__init__", defArgs s_Reader_init, defBody s_Reader_init, defScope s_Reader_init, [], []⟩
def d_Reader_ahead : He.DefD := ⟨("Reader", some "ahead"), "ahead", "Reader.ahead", defArgs s_Reader_ahead, defBody s_Reader_ahead, defScope s_Reader_ahead, [], []⟩
def d_Reader_take : He.DefD := ⟨("Reader", some "take"), "take", "Reader.take", defArgs s_Reader_take, defBody s_Reader_take, defScope s_Reader_take, [], []⟩
def d_Reader_skip : He.DefD := ⟨("Reader", some "skip"), "skip", "Reader.skip", defArgs s_Reader_skip, defBody s_Reader_skip, defScope s_Reader_skip, [], []⟩
def d_Reader_demand : He.DefD := ⟨("Reader", some "demand"), "demand", "Reader.demand", defArgs s_Reader_demand, defBody s_Reader_demand, defScope s_Reader_demand, [], []⟩
def d_Reader_read_args : He.DefD := ⟨("Reader", some "read_args"), "read_args", "Reader.read_args", defArgs s_Reader_read_args, defBody s_Reader_read_args, defScope s_Reader_read_args, [], []⟩
def d_Reader_read_part : He.DefD := ⟨("Reader", some "read_part"), "read_part", "Reader.read_part", defArgs s_Reader_read_part, defBody s_Reader_read_part, defScope s_Reader_read_part, [], []⟩
def d_Reader_read_sign : He.DefD := ⟨("Reader", some "read_sign"), "read_sign", "Reader.read_sign", defArgs s_Reader_read_sign, defBody s_Reader_read_sign, defScope s_Reader_read_sign, [], []⟩
def d_Reader_read_product : He.DefD := ⟨("Reader", some "read_product"), "read_product", "Reader.read_product", defArgs s_Reader_read_product, defBody s_Reader_read_product, defScope s_Reader_read_product, [], []⟩
def d_Reader_read_sum : He.DefD := ⟨("Reader", some "read_sum"), "read_sum", "Reader.read_sum", defArgs s_Reader_read_sum, defBody s_Reader_read_sum, defScope s_Reader_read_sum, [], []⟩
def d_Reader_check_end : He.DefD := ⟨("Reader", some "check_end"), "check_end", "Reader.check_end", defArgs s_Reader_check_end, defBody s_Reader_check_end, defScope s_Reader_check_end, [], []⟩
def d_read_formula : He.DefD := ⟨("read_formula", none), "read_formula", "read_formula", defArgs s_read_formula, defBody s_read_formula, defScope s_read_formula, [], []⟩
def d_unrolled : He.DefD := ⟨("unrolled", none), "unrolled", "unrolled", defArgs s_unrolled, defBody s_unrolled, defScope s_unrolled, [], []⟩
def d_trees_in : He.DefD := ⟨("trees_in", none), "trees_in", "trees_in", defArgs s_trees_in, defBody s_trees_in, defScope s_trees_in, [], []⟩
def d_names_of : He.DefD := ⟨("names_of", none), "names_of", "names_of", defArgs s_names_of, defBody s_names_of, defScope s_names_of, [], []⟩
def d_operand_text : He.DefD := ⟨("operand_text", none), "operand_text", "operand_text", defArgs s_operand_text, defBody s_operand_text, defScope s_operand_text, [], []⟩
def d_single_text : He.DefD := ⟨("single_text", none), "single_text", "single_text", defArgs s_single_text, defBody s_single_text, defScope s_single_text, [], []⟩
def d_plain_text : He.DefD := ⟨("plain_text", none), "plain_text", "plain_text", defArgs s_plain_text, defBody s_plain_text, defScope s_plain_text, [], []⟩
def d_law_row : He.DefD := ⟨("_law_row", none), "_law_row", "_law_row", defArgs s_law_row, defBody s_law_row, defScope s_law_row, [], []⟩
def d_law_at : He.DefD := ⟨("_law_at", none), "_law_at", "_law_at", defArgs s_law_at, defBody s_law_at, defScope s_law_at, [], []⟩
def d_law_next : He.DefD := ⟨("_law_next", none), "_law_next", "_law_next", defArgs s_law_next, defBody s_law_next, defScope s_law_next, [], []⟩
def d_law_tree : He.DefD := ⟨("_law_tree", none), "_law_tree", "_law_tree", defArgs s_law_tree, defBody s_law_tree, defScope s_law_tree, [], []⟩
def d_law_rank : He.DefD := ⟨("_law_rank", none), "_law_rank", "_law_rank", defArgs s_law_rank, defBody s_law_rank, defScope s_law_rank, [], []⟩
def d_law_plain26 : He.DefD := ⟨("_law_plain", none), "_law_plain", "_law_plain", defArgs s_law_plain26, defBody s_law_plain26, defScope s_law_plain26, [], []⟩
def d_law_operand : He.DefD := ⟨("_law_operand", none), "_law_operand", "_law_operand", defArgs s_law_operand, defBody s_law_operand, defScope s_law_operand, [], []⟩
def d_law_levels26 : He.DefD := ⟨("_law_levels", none), "_law_levels", "_law_levels", defArgs s_law_levels26, defBody s_law_levels26, defScope s_law_levels26, [], []⟩
def d_law_names26 : He.DefD := ⟨("_law_names", none), "_law_names", "_law_names", defArgs s_law_names26, defBody s_law_names26, defScope s_law_names26, [], []⟩
def d_law_once26 : He.DefD := ⟨("_law_once", none), "_law_once", "_law_once", defArgs s_law_once26, defBody s_law_once26, defScope s_law_once26, [], []⟩
def d_law : He.DefD := ⟨("law", none), "law", "law", defArgs s_law, defBody s_law, defScope s_law, [], []⟩
def d_c_ReckonError : He.DefD := ⟨("ReckonError", some "__init__"), "__init__", "ReckonError.__init__", defArgs s_c_ReckonError, defBody s_c_ReckonError, defScope s_c_ReckonError, [.str "", .str ""], []⟩
def d_c_BadForm : He.DefD := ⟨("BadForm", some "__init__"), "__init__", "BadForm.__init__", defArgs s_c_BadForm, defBody s_c_BadForm, defScope s_c_BadForm, [.str ""], []⟩
def fnD : List He.DefD := [d_run_of, d_token_at, d_tokens, d_is_name, d_is_integer, d_deeper, d_Reader_init, d_Reader_ahead, d_Reader_take, d_Reader_skip, d_Reader_demand, d_Reader_read_args, d_Reader_read_part, d_Reader_read_sign, d_Reader_read_product, d_Reader_read_sum, d_Reader_check_end, d_read_formula, d_unrolled, d_trees_in, d_names_of, d_operand_text, d_single_text, d_plain_text, d_law_row, d_law_at, d_law_next, d_law_tree, d_law_rank, d_law_plain26, d_law_operand, d_law_levels26, d_law_names26, d_law_once26, d_law, d_c_ReckonError, d_c_BadForm]
def tbD : List He.Tab := [(fun K => He.ga K "FUNCTIONS", ["rem", "bit", "len", "low", "abs", "min", "max", "tower"]), (fun K => He.ga K "MARKS_OF", ["add", "sub", "mul", "up", "down"]), (fun K => He.ga K "PRODUCTS", ["*", "<<", ">>"]), (fun K => He.ga K "RANKS", ["add", "sub", "mul", "up", "down"]), (fun K => He.ga K "SIGNS", ["-", "2^"]), (fun K => He.ga K "SUMS", ["+", "-"])]
def exL (K : PySem.W.Frag) : List Bool := [entN K (He.ga K "FUNCTIONS") [("rem", .int 2), ("bit", .int 2), ("len", .int 1), ("low", .int 1), ("abs", .int 1), ("min", .int 2), ("max", .int 2), ("tower", .int 1)],
  entN K (He.ga K "MARKS_OF") [("add", .str " + "), ("sub", .str " - "), ("mul", .str " * "), ("up", .str " << "), ("down", .str " >> ")],
  entN K (He.ga K "PRODUCTS") [("*", .str "mul"), ("<<", .str "up"), (">>", .str "down")],
  entN K (He.ga K "RANKS") [("add", .int 1), ("sub", .int 1), ("mul", .int 2), ("up", .int 2), ("down", .int 2)],
  entN K (He.ga K "SIGNS") [("-", .str "neg"), ("2^", .str "pow")],
  entN K (He.ga K "SUMS") [("+", .str "add"), ("-", .str "sub")],
  conN K "DIGITS" (.str "0123456789"),
  conN K "LETTERS" (.str "abcdefghijklmnopqrstuvwxyzABCDEFGHIJKLMNOPQRSTUVWXYZ"),
  conN K "MAX_FIGURES" (.int 18),
  conN K "MAX_LEVELS" (.int 30),
  conN K "MAX_NAME" (.int 4),
  conN K "MAX_TEXT" (.int 1000),
  conN K "SINGLE" (.int 3),
  conN K "SMALL_LETTERS" (.str "abcdefghijklmnopqrstuvwxyz"),
  errN K (He.ga K "BadForm") "BadForm",
  He.eqO (PySem.W.nsIn K mainGlobals "Reader") (some (some (.ref (He.ga K "Reader")))),
  PySem.W.plainGet K (He.ga K "Reader") Str.empty,
  PySem.W.hasDictIn K (He.ga K "Reader"),
  PySem.W.plainOver K (He.ga K "Reader"),
  He.eqO (PySem.W.findIn K (.ref (He.ga K "Reader")) "__setattr__") (some (some (.builtin "object.__setattr__"))),
  PySem.W.makesIn K (He.ga K "Reader"),
  PySem.W.keepIn K (.ref (He.ga K "Reader")),
  He.eqO (PySem.W.findIn K (.ref (He.ga K "Reader")) "at") (some none),
  He.eqO (PySem.W.findIn K (.ref (He.ga K "Reader")) "parts") (some none),
  He.eqO (PySem.W.nsIn K mainGlobals "run_of") (some (some (.ref (He.ga K "run_of")))),
  He.eqO (PySem.W.nsIn K mainGlobals "token_at") (some (some (.ref (He.ga K "token_at")))),
  He.eqO (PySem.W.nsIn K mainGlobals "tokens") (some (some (.ref (He.ga K "tokens")))),
  He.eqO (PySem.W.nsIn K mainGlobals "is_name") (some (some (.ref (He.ga K "is_name")))),
  He.eqO (PySem.W.nsIn K mainGlobals "is_integer") (some (some (.ref (He.ga K "is_integer")))),
  He.eqO (PySem.W.nsIn K mainGlobals "deeper") (some (some (.ref (He.ga K "deeper")))),
  He.eqO (PySem.W.findIn K (.ref (He.ga K "Reader")) "__init__") (some (some (.ref (He.ma K (He.ga K "Reader") "__init__")))),
  PySem.W.isFn K (.ref (He.ma K (He.ga K "Reader") "__init__")),
  He.eqO (PySem.W.findIn K (.ref (He.ga K "Reader")) "ahead") (some (some (.ref (He.ma K (He.ga K "Reader") "ahead")))),
  PySem.W.isFn K (.ref (He.ma K (He.ga K "Reader") "ahead")),
  He.eqO (PySem.W.findIn K (.ref (He.ga K "Reader")) "take") (some (some (.ref (He.ma K (He.ga K "Reader") "take")))),
  PySem.W.isFn K (.ref (He.ma K (He.ga K "Reader") "take")),
  He.eqO (PySem.W.findIn K (.ref (He.ga K "Reader")) "skip") (some (some (.ref (He.ma K (He.ga K "Reader") "skip")))),
  PySem.W.isFn K (.ref (He.ma K (He.ga K "Reader") "skip")),
  He.eqO (PySem.W.findIn K (.ref (He.ga K "Reader")) "demand") (some (some (.ref (He.ma K (He.ga K "Reader") "demand")))),
  PySem.W.isFn K (.ref (He.ma K (He.ga K "Reader") "demand")),
  He.eqO (PySem.W.findIn K (.ref (He.ga K "Reader")) "read_args") (some (some (.ref (He.ma K (He.ga K "Reader") "read_args")))),
  PySem.W.isFn K (.ref (He.ma K (He.ga K "Reader") "read_args")),
  He.eqO (PySem.W.findIn K (.ref (He.ga K "Reader")) "read_part") (some (some (.ref (He.ma K (He.ga K "Reader") "read_part")))),
  PySem.W.isFn K (.ref (He.ma K (He.ga K "Reader") "read_part")),
  He.eqO (PySem.W.findIn K (.ref (He.ga K "Reader")) "read_sign") (some (some (.ref (He.ma K (He.ga K "Reader") "read_sign")))),
  PySem.W.isFn K (.ref (He.ma K (He.ga K "Reader") "read_sign")),
  He.eqO (PySem.W.findIn K (.ref (He.ga K "Reader")) "read_product") (some (some (.ref (He.ma K (He.ga K "Reader") "read_product")))),
  PySem.W.isFn K (.ref (He.ma K (He.ga K "Reader") "read_product")),
  He.eqO (PySem.W.findIn K (.ref (He.ga K "Reader")) "read_sum") (some (some (.ref (He.ma K (He.ga K "Reader") "read_sum")))),
  PySem.W.isFn K (.ref (He.ma K (He.ga K "Reader") "read_sum")),
  He.eqO (PySem.W.findIn K (.ref (He.ga K "Reader")) "check_end") (some (some (.ref (He.ma K (He.ga K "Reader") "check_end")))),
  PySem.W.isFn K (.ref (He.ma K (He.ga K "Reader") "check_end")),
  He.eqO (PySem.W.nsIn K mainGlobals "read_formula") (some (some (.ref (He.ga K "read_formula")))),
  He.eqO (PySem.W.nsIn K mainGlobals "unrolled") (some (some (.ref (He.ga K "unrolled")))),
  He.eqO (PySem.W.nsIn K mainGlobals "trees_in") (some (some (.ref (He.ga K "trees_in")))),
  He.eqO (PySem.W.nsIn K mainGlobals "names_of") (some (some (.ref (He.ga K "names_of")))),
  He.eqO (PySem.W.nsIn K mainGlobals "operand_text") (some (some (.ref (He.ga K "operand_text")))),
  He.eqO (PySem.W.nsIn K mainGlobals "single_text") (some (some (.ref (He.ga K "single_text")))),
  He.eqO (PySem.W.nsIn K mainGlobals "plain_text") (some (some (.ref (He.ga K "plain_text")))),
  He.eqO (PySem.W.nsIn K mainGlobals "_law_row") (some (some (.ref (He.ga K "_law_row")))),
  He.eqO (PySem.W.nsIn K mainGlobals "_law_at") (some (some (.ref (He.ga K "_law_at")))),
  He.eqO (PySem.W.nsIn K mainGlobals "_law_next") (some (some (.ref (He.ga K "_law_next")))),
  He.eqO (PySem.W.nsIn K mainGlobals "_law_tree") (some (some (.ref (He.ga K "_law_tree")))),
  He.eqO (PySem.W.nsIn K mainGlobals "_law_rank") (some (some (.ref (He.ga K "_law_rank")))),
  He.eqO (PySem.W.nsIn K mainGlobals "_law_plain") (some (some (.ref (He.ga K "_law_plain")))),
  He.eqO (PySem.W.nsIn K mainGlobals "_law_operand") (some (some (.ref (He.ga K "_law_operand")))),
  He.eqO (PySem.W.nsIn K mainGlobals "_law_levels") (some (some (.ref (He.ga K "_law_levels")))),
  He.eqO (PySem.W.nsIn K mainGlobals "_law_names") (some (some (.ref (He.ga K "_law_names")))),
  He.eqO (PySem.W.nsIn K mainGlobals "_law_once") (some (some (.ref (He.ga K "_law_once")))),
  He.eqO (PySem.W.nsIn K mainGlobals "law") (some (some (.ref (He.ga K "law")))),
  He.eqO (PySem.W.nsIn K mainGlobals "BadForm") (some (some (.ref (He.ga K "BadForm")))),
  PySem.W.keepIn K (.ref (He.ga K "BadForm")),
  decide (PySem.W.subIn K (.ref (He.ga K "BadForm")) (.type "BaseException") = some true),
  decide (PySem.W.typeIn K (.ref (He.ga K "BadForm")) = some (.type "type")),
  He.eqO (PySem.W.findIn K (.ref (He.ga K "BadForm")) "__getattribute__") (some (some (.builtin "BaseException.__getattribute__"))),
  He.eqO (PySem.W.findIn K (.ref (He.ga K "BadForm")) "__getattr__") (some none),
  PySem.W.hasDictIn K (He.ga K "BadForm"),
  He.eqO (PySem.W.findIn K (.ref (He.ga K "BadForm")) "__class__") (some (some (.builtin "object.__class__"))),
  decide (PySem.W.mroIn K (He.ga K "BadForm") (.type "object") = some true),
  He.eqO (PySem.W.nsIn K mainGlobals "ReckonError") (some (some (.ref (He.ga K "ReckonError")))),
  PySem.W.keepIn K (.ref (He.ga K "ReckonError")),
  decide (PySem.W.subIn K (.ref (He.ga K "ReckonError")) (.type "BaseException") = some true),
  decide (PySem.W.typeIn K (.ref (He.ga K "ReckonError")) = some (.type "type")),
  He.eqO (PySem.W.findIn K (.ref (He.ga K "ReckonError")) "__getattribute__") (some (some (.builtin "BaseException.__getattribute__"))),
  He.eqO (PySem.W.findIn K (.ref (He.ga K "ReckonError")) "__getattr__") (some none),
  PySem.W.hasDictIn K (He.ga K "ReckonError"),
  He.eqO (PySem.W.findIn K (.ref (He.ga K "ReckonError")) "__class__") (some (some (.builtin "object.__class__"))),
  decide (PySem.W.mroIn K (He.ga K "ReckonError") (.type "object") = some true),
  fndN K (.type "ValueError") "__init__" (.builtin "ValueError.__init__"),
  He.eqO (PySem.W.findIn K (.ref (He.ga K "ReckonError")) "__init__") (some (some (.ref (He.ma K (He.ga K "ReckonError") "__init__")))),
  decide (PySem.W.typeIn K (.ref (He.ma K (He.ga K "ReckonError") "__init__")) = some (.type "function")),
  PySem.W.readsIn K (He.ga K "ReckonError") (.type "type"),
  He.eqO (PySem.W.specialIn K (.ref (He.ga K "ReckonError")) "__getattribute__") (some (some (.builtin "type.__getattribute__"))),
  fndN K (.ref (He.ga K "ReckonError")) "__init__" (.ref (He.ma K (He.ga K "ReckonError") "__init__")),
  He.eqO (PySem.W.findIn K (.ref (He.ga K "BadForm")) "__init__") (some (some (.ref (He.ma K (He.ga K "BadForm") "__init__")))),
  decide (PySem.W.typeIn K (.ref (He.ma K (He.ga K "BadForm") "__init__")) = some (.type "function")),
  He.eqO (PySem.W.findIn K (.ref (He.ga K "BadForm")) "__setattr__") (some (some (.builtin "object.__setattr__"))),
  He.eqO (PySem.W.findIn K (.ref (He.ga K "BadForm")) "word") (some none),
  He.eqO (PySem.W.specialIn K (.builtin "object.__class__") "__get__") (some (some (.builtin "getset_descriptor.__get__"))),
  decide (PySem.W.takesIn K (.builtin "object.__class__") = some true),
  He.eqO (PySem.W.nsIn K mainGlobals "ValueError") (some none),
  He.eqO (PySem.W.nsIn K mainGlobals "abs") (some none),
  He.eqO (PySem.W.nsIn K mainGlobals "int") (some none),
  He.eqO (PySem.W.nsIn K mainGlobals "len") (some none),
  He.eqO (PySem.W.nsIn K mainGlobals "max") (some none),
  He.eqO (PySem.W.nsIn K mainGlobals "range") (some none),
  He.eqO (PySem.W.nsIn K mainGlobals "set") (some none),
  He.eqO (PySem.W.nsIn K mainGlobals "sorted") (some none),
  He.eqO (PySem.W.nsIn K mainGlobals "str") (some none),
  He.eqO (PySem.W.nsIn K mainGlobals "tuple") (some none),
  He.eqO (PySem.W.nsIn K mainGlobals "KEYWORDS") (some (some (.ref (He.ga K "KEYWORDS")))),
  datN K 5 (He.ga K "KEYWORDS") (.tuple [.str "if", .str "else", .str "turn", .str "show"]),
  He.eqO (PySem.W.nsIn K mainGlobals "MARKS") (some (some (.ref (He.ga K "MARKS")))),
  datN K 5 (He.ga K "MARKS") (.tuple [.str "<<", .str ">>", .str "<=", .str "==", .str "!=", .str "+", .str "-", .str "*", .str "(", .str ")", .str ",", .str "=", .str ";", .str "{", .str "}", .str "<"]),
  He.eqO (PySem.W.nsIn K mainGlobals "OPERATIONS") (some (some (.ref (He.ga K "OPERATIONS")))),
  datN K 5 (He.ga K "OPERATIONS") (.tuple [.str "add", .str "sub", .str "mul", .str "up", .str "down"]),
  He.eqO (PySem.W.nsIn K mainGlobals "FUNCTIONS") (some (some (.ref (He.ga K "FUNCTIONS")))),
  He.eqO (PySem.W.nsIn K mainGlobals "MARKS_OF") (some (some (.ref (He.ga K "MARKS_OF")))),
  He.eqO (PySem.W.nsIn K mainGlobals "PRODUCTS") (some (some (.ref (He.ga K "PRODUCTS")))),
  He.eqO (PySem.W.nsIn K mainGlobals "RANKS") (some (some (.ref (He.ga K "RANKS")))),
  He.eqO (PySem.W.nsIn K mainGlobals "SIGNS") (some (some (.ref (He.ga K "SIGNS")))),
  He.eqO (PySem.W.nsIn K mainGlobals "SUMS") (some (some (.ref (He.ga K "SUMS"))))]
abbrev rowL : PySem.W.OpenRow := PySem.W.OpenLaw.row PySem.Challenge.rw_sandreckoner_k26_formulas_read
def looseL : List Str := (["__name__", "ReckonError", "BadForm", "MAX_TEXT", "DIGITS", "SMALL_LETTERS", "LETTERS", "MARKS", "run_of", "token_at", "tokens", "MAX_LEVELS", "MAX_FIGURES", "MAX_NAME", "FUNCTIONS", "KEYWORDS", "SUMS", "PRODUCTS", "SIGNS", "OPERATIONS", "is_name", "is_integer", "deeper", "Reader", "read_formula", "unrolled", "trees_in", "names_of", "MARKS_OF", "RANKS"] : List Str) ++ (["SINGLE", "plain_text", "operand_text", "single_text", "_law_row", "_law_at", "_law_next", "_law_tree", "_law_rank", "_law_operand", "_law_plain", "_law_levels", "_law_names", "_law_once"] : List Str)
abbrev viewL : Program := PySem.W.view rowL.prog [48]
def adL : List Nat := [2, 3, 6, 4, 32, 53, 56, 63, 70, 77, 78, 79, 80, 81, 82, 83, 90, 97, 104, 191, 202, 209, 216, 223, 224, 225, 232, 239, 244, 251, 258, 265, 272, 279, 286, 291, 296, 303, 310, 317, 0, 31, 52, 62, 69, 76, 89, 96, 103, 190, 201, 208, 215, 222, 231, 238, 243, 250, 257, 264, 271, 278, 285, 290, 295, 302, 309, 316, 29, 30, 33, 50, 51, 118, 125, 132, 139, 146, 153, 160, 167, 174, 181, 188, 189, 192, 193, 28, 22, 49, 43, 117, 124, 131, 138, 145, 152, 159, 166, 173, 180, 187]
set_option maxHeartbeats 0 in
theorem head_run1 (w : World) : HandSHeadRun.RunEq rowL viewL (hookN adL fnD tbD exL) (obN adL fnD tbD exL) 20000 looseL (w.withFollow "special-get-raises" true) := by intro os; kernel_rfl
set_option maxHeartbeats 0 in
theorem head_run2 (w : World) : HandSHeadRun.RunEq rowL viewL (hookN adL fnD tbD exL) (obN adL fnD tbD exL) 20000 looseL (w.withFollow "special-get-raises" false) := by intro os; kernel_rfl
theorem head_run (w : World) : HandSHeadRun.RunEq rowL viewL (hookN adL fnD tbD exL) (obN adL fnD tbD exL) 20000 looseL w := PySem.W.byRow2 "special-get-raises" (P := fun w => HandSHeadRun.RunEq rowL viewL (hookN adL fnD tbD exL) (obN adL fnD tbD exL) 20000 looseL w) (fun w => head_run2 w) (fun w => head_run1 w) w
end Sk
set_option Elab.async false
set_option linter.all false
set_option maxRecDepth 100000
set_option maxHeartbeats 2000000
namespace Sk
open PySem L2 Evl
theorem naf_len : ∀ (k : Nat) (n : Int) (p : Nat), n.natAbs ≤ 2 ^ k → (naf n p).length ≤ k + 1
  | 0, n, p, h => by
    have h' : n = 0 ∨ n = 1 ∨ n = -1 := by simp at h; omega
    rcases h' with rfl | rfl | rfl
    · rw [naf_zero]; exact Nat.zero_le _
    · rw [naf_odd (by decide), show ((1 : Int) - (2 - 1 % 4)) / 2 = 0 by decide, naf_zero]; exact Nat.le_refl _
    · rw [naf_odd (by decide), show ((-1 : Int) - (2 - -1 % 4)) / 2 = 0 by decide, naf_zero]; exact Nat.le_refl _
  | k + 1, n, p, h => by
    rw [Nat.pow_succ] at h
    rcases Int.emod_two_eq n with q | q
    · rw [naf_even q]
      exact Nat.le_trans (naf_len k (n / 2) (p + 1) (by omega)) (by omega)
    · rw [naf_odd q, List.length_cons]
      have h1 : 0 < 2 ^ k := Nat.two_pow_pos k
      exact Nat.succ_le_succ (naf_len k _ (p + 1) (by omega))
theorem naf_shift (m : Int) : ∀ (k p : Nat), naf (2 ^ k * m) p = naf m (p + k)
  | 0, p => by rw [Int.pow_zero, Int.one_mul]; rfl
  | k + 1, p => by
    have e : (2 : Int) ^ (k + 1) * m = 2 * (2 ^ k * m) := by rw [Int.pow_succ, Int.mul_comm (2 ^ k) 2, Int.mul_assoc]
    rw [e, naf_even (by omega)]
    have e2 : 2 * (2 ^ k * m) / 2 = 2 ^ k * m := by omega
    rw [e2, naf_shift m k (p + 1)]
    congr 1
    omega
end Sk
set_option Elab.async false
set_option linter.all false
set_option maxRecDepth 100000
set_option maxHeartbeats 2000000
namespace Sk
open PySem L2 Evl
/-- how great a number may be for d calls, one in another -/
def Cb : Nat → Nat
  | 0 => 0
  | 1 => 1
  | d + 2 => 2 ^ (Cb (d + 1) - 1) + 1
theorem Cb_pos : ∀ d, 1 ≤ Cb (d + 1)
  | 0 => Nat.le_refl _
  | d + 1 => Nat.le_add_left 1 _
theorem Cb_step {d : Nat} {n : Int} (h : n.natAbs < Cb (d + 1)) {x : Int × Nat} (hx : x ∈ naf n 0) : x.2 < Cb d := by
  cases d with
  | zero =>
    have : n = 0 := by
      have : n.natAbs < 1 := h
      omega
    subst this; rw [naf_zero] at hx; cases hx
  | succ d =>
    have h' : n.natAbs < 2 ^ (Cb (d + 1) - 1) + 1 := h
    have := naf_le (m := Cb (d + 1) - 1) (by omega) hx
    have := Cb_pos d
    omega
theorem Cb7 : Cb 7 = 2 ^ 65536 + 1 := by
  have h3 : Cb 3 = 3 := by decide
  have h4 : Cb 4 = 5 := by show 2 ^ (Cb 3 - 1) + 1 = 5; rw [h3] <;> rfl
  have h5 : Cb 5 = 17 := by show 2 ^ (Cb 4 - 1) + 1 = 17; rw [h4] <;> rfl
  have h6 : Cb 6 = 65537 := by show 2 ^ (Cb 5 - 1) + 1 = 65537; rw [h5] <;> rfl
  show 2 ^ (Cb 6 - 1) + 1 = 2 ^ 65536 + 1
  rw [h6]
theorem Cb7_ge : 2 ^ 65536 ≤ Cb 7 := by
  rw [Cb7]
  exact Nat.le_add_right _ _
theorem lt_Cb7 {m k : Nat} (h : m < 2 ^ k) (hk : k ≤ 65536) : m < Cb 7 := Nat.lt_of_lt_of_le h (Nat.le_trans (Nat.pow_le_pow_right (by decide) hk) Cb7_ge)
/-- a term: a sign and a number -/
def TermI (K : PySem.W.Frag) (x : Int × T) : VP := fun v H => ∃ q w, v = .ref q ∧ SqT K H q [.int x.1, w] ∧ NumV K H w x.2
section
variable {K : PySem.W.Frag} {σ : L2.St} {H : Hp} {te tl : TE} {g : TG} {vs : List Nat}
theorem er_lcIT {α : Type} {R1 R2 : α → VP} {l : List α} (hsrc : ER tl σ H (fun v H2 => ∃ a xs, v = .ref a ∧ SqT K H2 a xs ∧ ItemsR R1 l xs H2)) (m1 : ∀ a, Mono (R1 a)) (m2 : ∀ a, MonoT (R2 a)) (hz : l.length < 100000)
    (hb : ∀ (i : Nat) (a : α) x H1, l[i]? = some a → R1 a x H1 → Ex H H1 → ∀ Qk : VK, (∀ v H2, Ex H1 H2 → R2 a v H2 → Qk v H2) → g x (wipe σ vs) H1 fun σ2 H2 => wipe σ2 vs = wipe σ vs ∧ te σ2 H2 Qk) :
    ER (tLc (iTup K tl) g tYes te vs) σ H (fun v H2 => ∃ p ys, v = .ref p ∧ H p = none ∧ H2 p = some (.lst ys) ∧ ItemsR R2 l ys H2) :=
  (er_lcT (S := fun xs H2 => ItemsR R1 l xs H2) (R := fun xs i v H2 => ∀ a, l[i]? = some a → R2 a v H2) hsrc (fun _ _ _ e h => h.ex m1 e) (fun xs H2 h => by rw [h.1]; exact hz) (fun xs i v H1 H2 e h a ha => m2 a v H1 H2 e (h a ha))
    (fun xs i x H1 hi e hS Qk q => by
      obtain ⟨a, ha, r⟩ := hS.of_at hi
      exact hb i a x H1 ha r e Qk fun v H2 e2 r2 => q v H2 e2 fun b hb => by rw [ha] at hb; cases hb; exact r2)).imp
    fun v H2 e ⟨p, xs, ys, h1, h2, h3, h4, h5, h6⟩ => ⟨p, ys, h1, h2, h3, h5.trans h4.1, fun i y a g1 g2 => h6 i y g1 a g2⟩
/-- tuple(e), e a list -/
theorem er_tupleOf {R : List V → Hp → Prop} (h : ER te σ H (fun v H2 => ∃ p ys, v = .ref p ∧ SqL K H2 p ys ∧ R ys H2)) (m : MonoL R) : ER (tThen te (kTup K)) σ H (fun v H2 => ∃ p ys, v = .ref p ∧ H2 p = some (.tup ys) ∧ R ys H2) := fun H1 e Q q =>
  h H1 e _ fun v H2 e2 ⟨p, ys, h1, h2, h3⟩ => .inl ⟨p, ys, h1, h2, fun r hr => q _ _ (e2.trans (Ex.new hr)) ⟨r, ys, rfl, upd_same, m ys _ _ (Ex.new hr) h3⟩⟩
theorem er_revL {R : List V → Hp → Prop} (h : ER te σ H (fun v H2 => ∃ p ys, v = .ref p ∧ SqL K H2 p ys ∧ R ys H2)) (m : MonoL R) : ER (tRevL K te) σ H (fun v H2 => ∃ p ys, v = .ref p ∧ SqL K H2 p ys.reverse ∧ R ys H2) := fun H1 e Q q =>
  h H1 e _ fun v H2 e2 ⟨p, ys, h1, h2, h3⟩ => ⟨p, ys, h1, h2, fun r hr => q _ _ (e2.trans (Ex.new hr)) ⟨r, ys, rfl, sq_of upd_same, m ys _ _ (Ex.new hr) h3⟩⟩
end
theorem et_chainI {K : PySem.W.Frag} {σ : L2.St} {H : Hp} {ta tb tc : TE} {i j k : Int} (ha : Ev ta σ H (.int i)) (hb : Ev tb σ H (.int j)) (hc : Ev tc σ H (.int k)) : EvT (tTest (tChain xLe xLt ta tb tc)) σ H (decide (i ≤ j) && decide (j < k)) := fun H1 e Q q =>
  ha H1 e _ fun H2 e2 => hb H2 (e.trans e2) _ fun H3 e3 => ⟨i, j, rfl, rfl, decide (i ≤ j), rfl, by
    by_cases h : i ≤ j
    · rw [if_pos (decide_eq_true h)]
      refine hc H3 (e.trans (e2.trans e3)) _ fun H4 e4 => ⟨j, k, rfl, rfl, decide (j < k), rfl, ?_⟩
      have := q H4 (e2.trans (e3.trans e4))
      rw [decide_eq_true h, Bool.true_and] at this
      exact this
    · rw [if_neg (by rw [decide_eq_false h]; decide)]
      refine ⟨false, rfl, ?_⟩
      have := q H3 (e2.trans e3)
      rw [decide_eq_false h, Bool.false_and] at this
      exact this⟩
end Sk
set_option Elab.async false
set_option linter.all false
set_option maxRecDepth 100000
set_option maxHeartbeats 2000000
namespace Sk
open PySem L2 Evl
/-- signs are signs, exponents are not below 0 (and lists not too long for the machine) -/
def T.nn : T → Prop
  | .nil => True
  | .cons s e r => ((s = 1 ∨ s = -1) ∧ 0 ≤ e.val ∧ e.toL.length < 100000 ∧ e.can) ∧ e.nn ∧ r.nn
theorem nn_toL : ∀ {t : T}, t.nn → ∀ x ∈ t.toL, ((x.1 = 1 ∨ x.1 = -1) ∧ 0 ≤ x.2.val ∧ x.2.toL.length < 100000 ∧ x.2.can) ∧ x.2.nn
  | .nil, _, x, hx => by cases hx
  | .cons s e r, h, x, hx => by
    rcases List.mem_cons.mp hx with rfl | hx
    · exact ⟨h.1, h.2.1⟩
    · exact nn_toL h.2.2 x hx
theorem toL_toT (n : Int) : (toT n).toL = (naf n 0).reverse.map fun x : Int × Nat => (x.1, toT (x.2 : Int)) := by rw [toT_eq, toL_ofL]
theorem toT_len {n : Int} {k : Nat} (h : n.natAbs ≤ 2 ^ k) : (toT n).toL.length ≤ k + 1 := by
  rw [toL_toT, List.length_map, List.length_reverse]
  exact naf_len k n 0 h
end Sk
set_option Elab.async false
set_option linter.all false
set_option maxRecDepth 100000
set_option maxHeartbeats 2000000
namespace Sk
open PySem L2 Evl
theorem mem_size : ∀ {t : T} {x : Int × T}, x ∈ t.toL → x.2.size < t.size ∧ x.2.height < t.height
  | .nil, x, h => by cases h
  | .cons s e r, x, h => by
    have e1 : (T.cons s e r).height = max (e.height + 1) r.height := rfl
    have e2 : (T.cons s e r).size = e.size + r.size := rfl
    have pos : ∀ t : T, 1 ≤ t.size := fun t => by
      induction t with
      | nil => exact Nat.le_refl _
      | cons s e r h1 h2 => show 1 ≤ e.size + r.size; omega
    have p1 := pos r
    have p2 := pos e
    rcases List.mem_cons.mp h with rfl | h
    · show e.size < _ ∧ e.height < _; omega
    · have := mem_size h; omega
theorem len_size (t : T) : t.toL.length < t.size := by
  induction t with
  | nil => exact Nat.lt_succ_self _
  | cons s e r h1 h2 =>
    show r.toL.length + 1 < e.size + r.size
    omega
theorem can_lead : ∀ {t : T}, t.can → ∀ x ∈ t.toL, x.2.val ≤ t.lead
  | .nil, _, x, hx => by cases hx
  | .cons s e r, h, x, hx => by
    rcases List.mem_cons.mp hx with rfl | hx
    · exact Int.le_refl _
    · have := can_lead h.2.2 x hx
      have h2 := h.1.2.2
      show x.2.val ≤ e.val
      omega
theorem can_gap : ∀ {t : T}, t.can → t.toL.Pairwise (fun x y => y.2.val + 2 ≤ x.2.val)
  | .nil, _ => List.Pairwise.nil
  | .cons s e r, h => List.pairwise_cons.mpr ⟨fun x hx => by
      have := can_lead h.2.2 x hx
      have h2 := h.1.2.2
      show x.2.val + 2 ≤ e.val
      omega, can_gap h.2.2⟩
theorem nn_of_can : ∀ {t : T}, t.can → t.size < 100000 → t.nn
  | .nil, _, _ => True.intro
  | .cons s e r, h, hz => by
    have e2 : (T.cons s e r).size = e.size + r.size := rfl
    have h1 := len_size e
    have h2 := len_size r
    exact ⟨⟨h.1.1, h.1.2.1, by omega, h.2.1⟩, nn_of_can h.2.1 (by omega), nn_of_can h.2.2 (by omega)⟩
end Sk
set_option Elab.async false
set_option linter.all false
set_option maxRecDepth 100000
set_option maxHeartbeats 2000000
namespace Sk
open PySem L2 Evl
def hrow (row : List T) : Nat := row.foldr (fun t m => max (t.height + 1) m) 0
theorem height_le_of : ∀ {t : T} {k : Nat}, (∀ x ∈ t.toL, x.2.height + 1 ≤ k) → t.height ≤ k
  | .nil, _, _ => Nat.zero_le _
  | .cons s e r, k, h => by
    have h1 := h (s, e) List.mem_cons_self
    have h2 := height_le_of (t := r) fun x hx => h x (List.mem_cons_of_mem _ hx)
    show max (e.height + 1) r.height ≤ k
    have h1' : e.height + 1 ≤ k := h1
    omega
theorem size_toL : ∀ t : T, t.size = 1 + (t.toL.map fun x => x.2.size).sum
  | .nil => rfl
  | .cons s e r => by
    show e.size + r.size = 1 + ((s, e).2.size :: r.toL.map fun x => x.2.size).sum
    rw [List.sum_cons, size_toL r]
    show e.size + _ = 1 + (e.size + _)
    omega
section
variable {K : PySem.W.Frag} {H : Hp} {x0 x1 x2 x3 x4 x5 : Option V}
theorem take_snoc {α : Type} {l : List α} {i : Nat} {a : α} (h : l[i]? = some a) : l.take (i + 1) = l.take i ++ [a] := by
  have hlt : i < l.length := (List.getElem?_eq_some_iff.mp h).1
  rw [List.take_succ, h] <;> rfl
end
theorem height_le_size : ∀ t : T, t.height + 1 ≤ t.size
  | .nil => Nat.le_refl _
  | .cons s e r => by
    have h1 := height_le_size e
    have h2 := height_le_size r
    show max (e.height + 1) r.height + 1 ≤ e.size + r.size
    omega
end Sk
set_option Elab.async false
set_option linter.all false
set_option maxRecDepth 100000
set_option maxHeartbeats 2000000
namespace Sk
open PySem L2 Evl
end Sk
set_option Elab.async false
set_option linter.all false
set_option maxRecDepth 100000
set_option maxHeartbeats 2000000
namespace Sk
open PySem L2 Evl
def rEqN (K : PySem.W.Frag) : R2 := fun x y H Q => ∃ d e, Dp K H x d ∧ Dp K H y e ∧ d.canLay0 = true ∧ e.canLay0 = true ∧ d.depth ≤ 100 ∧ Q (.bl (d.eqv e)) H
theorem op_eqN {X : Cx} (hu : X.A.units + 150 < cLine) : OpR X (compareOp .Eq) (rEqN X.K) := fun pins s σ H x y v u Q I r1 r2 ⟨d, e, h1, h2, h3, h4, h5, q⟩ => by
  obtain ⟨as, ra⟩ := Dp.reads I d x v h1 r1
  obtain ⟨bs, rb⟩ := Dp.reads I e y u h2 r2
  exact SeqAt.compareEq_reads ra rb h3 h4 (by have := Nat.min_le_left d.depth e.depth; omega) ⟨.bl _, H, I, rfl, q⟩
def rNeN (K : PySem.W.Frag) : R2 := fun x y H Q => ∃ d e, Dp K H x d ∧ Dp K H y e ∧ d.canLay0 = true ∧ e.canLay0 = true ∧ d.depth ≤ 100 ∧ Q (.bl (!d.eqv e)) H
theorem op_neN {X : Cx} (hu : X.A.units + 150 < cLine) : OpR X (compareOp .NotEq) (rNeN X.K) := fun pins s σ H x y v u Q I r1 r2 ⟨d, e, h1, h2, h3, h4, h5, q⟩ => by
  obtain ⟨as, ra⟩ := Dp.reads I d x v h1 r1
  obtain ⟨bs, rb⟩ := Dp.reads I e y u h2 r2
  exact SeqAt.compareNe_reads ra rb h3 h4 (by have := Nat.min_le_left d.depth e.depth; omega) ⟨.bl _, H, I, rfl, q⟩
end Sk
set_option Elab.async false
set_option linter.all false
set_option maxRecDepth 100000
set_option maxHeartbeats 2000000
namespace Sk
open PySem L2 Evl
section
variable {K : PySem.W.Frag} {σ : L2.St} {H : Hp} {te tf ta : TE}
/-- number[n:] -/
theorem er_fromT {p : Addr} {xs : List V} {n : Nat} (h : Ev te σ H (.ref p)) (hp : SqT K H p xs) (hi : Ev ta σ H (.int (n : Int))) : ER (tSl (rSlA K) te (tPart ta) tNoPart) σ H (fun v H2 => ∃ q, v = .ref q ∧ SqT K H2 q (xs.drop n)) := fun H1 e Q q => by
  have hcut : cutV xs (some (n : Int)) none = xs.drop n := by
    unfold cutV HT.sIx
    simp only
    rw [if_neg (by omega), Int.toNat_natCast]
    rcases Nat.le_total n xs.length with h | h
    · rw [Nat.min_eq_left h, List.take_of_length_le (by rw [List.length_drop]; exact Nat.le_refl _)]
    · rw [Nat.min_eq_right h, List.drop_length, List.drop_of_length_le h]; simp
  refine h H1 e _ fun H2 e2 => ?_
  refine eo_some hi H2 (e.trans e2) _ fun H3 e3 => ?_
  refine eo_none H3 ((e.trans e2).trans e3) _ fun H4 e4 => ?_
  have e14 := e2.trans (e3.trans e4)
  refine ⟨p, xs, rfl, ex_t (e.trans e14) hp, fun hw => ?_, fun hw r hr => ?_⟩
  · refine q _ H4 e14 ⟨p, rfl, ?_⟩
    have h2 := hw.1
    unfold HT.sIx at h2
    simp only at h2
    rw [if_neg (by omega), Int.toNat_natCast] at h2
    have : xs.drop n = xs := by
      rcases Nat.eq_zero_or_pos n with h | h
      · subst h; rfl
      · have : xs = [] := List.length_eq_zero_iff.mp (by omega)
        subst this; simp
    rw [this]
    exact ex_t (e.trans e14) hp
  · refine q _ _ (e14.trans (Ex.new hr)) ⟨r, rfl, st_of ?_⟩
    rw [upd_same, hcut]
end
end Sk
set_option Elab.async false
set_option linter.all false
set_option maxRecDepth 100000
set_option maxHeartbeats 2000000
namespace Sk
open PySem L2 Evl
/-- n different remainders, the next one is that of 2 ** l -/
def IsRow (m n l : Nat) : Prop := l < n ∧ 2 ^ n % m = 2 ^ l % m ∧ ∀ i j, i < j → j < n → 2 ^ i % m ≠ 2 ^ j % m
theorem distinct_le {m n : Nat} (hm : 0 < m) (h : ∀ i j, i < j → j < n → 2 ^ i % m ≠ 2 ^ j % m) : n ≤ m := by
  have nd : ((List.range n).map fun i => 2 ^ i % m).Nodup := by
    rw [List.nodup_iff_pairwise_ne, List.pairwise_map]
    refine List.Pairwise.imp_of_mem (R := fun a b => a < b) (fun {a b} ha hb hab => h a b hab (List.mem_range.mp hb)) List.pairwise_lt_range
  have := nd.length_le_of_subset (l₂ := List.range m) (fun x hx => by
    obtain ⟨i, _, rfl⟩ := List.mem_map.mp hx
    exact List.mem_range.mpr (Nat.mod_lt _ hm))
  simpa using this
theorem IsRow.le {m n l : Nat} (hm : 0 < m) (h : IsRow m n l) : n ≤ m := distinct_le hm h.2.2
/-- behind the lead the remainders come again -/
theorem IsRow.again {m n l : Nat} (h : IsRow m n l) (k : Nat) : ∀ i, l ≤ i → 2 ^ (i + k * (n - l)) % m = 2 ^ i % m := by
  have one : ∀ i, l ≤ i → 2 ^ (i + (n - l)) % m = 2 ^ i % m := fun i hi => by
    have e1 : i + (n - l) = n + (i - l) := by have := h.1; omega
    have e2 : i = l + (i - l) := by omega
    rw [e1, Nat.pow_add, Nat.mul_mod, h.2.1, ← Nat.mul_mod, ← Nat.pow_add, ← e2]
  induction k with
  | zero => intro i _; rw [Nat.zero_mul, Nat.add_zero]
  | succ k ih =>
    intro i hi
    rw [Nat.succ_mul, ← Nat.add_assoc, one _ (by omega), ih i hi]
theorem IsRow.turn {m n l : Nat} (h : IsRow m n l) {e : Nat} (he : l ≤ e) : 2 ^ e % m = 2 ^ (l + (e - l) % (n - l)) % m := by
  have h1 := h.again ((e - l) / (n - l)) (l + (e - l) % (n - l)) (Nat.le_add_right _ _)
  rw [← h1]
  have h2 := Nat.mod_add_div (e - l) (n - l)
  rw [Nat.mul_comm] at h2
  congr 2
  omega
/-- what the dict of places says behind i powers -/
structure Plc (m i : Nat) (kvs : List (Key × V)) : Prop where
  len : kvs.length = i
  has : ∀ j, j < i → valV kvs (Sum.inl (((2 ^ j % m : Nat) : Int))) = some (.int (j : Int))
  only : ∀ k v, valV kvs (Sum.inl k) = some v → ∃ j, j < i ∧ k = ((2 ^ j % m : Nat) : Int)
  dist : ∀ a b, a < b → b < i → 2 ^ a % m ≠ 2 ^ b % m
theorem Plc.next {m i : Nat} {kvs : List (Key × V)} (h : Plc m i kvs) (hn : valV kvs (Sum.inl (((2 ^ i % m : Nat) : Int))) = none) : Plc m (i + 1) (putK kvs (Sum.inl (((2 ^ i % m : Nat) : Int))) (.int (i : Int))) := by
  have hd : ∀ a, a < i → 2 ^ a % m ≠ 2 ^ i % m := fun a ha e => by
    have := h.has a ha
    rw [e, hn] at this
    cases this
  refine ⟨by rw [putK_new _ hn, List.length_append, h.len]; rfl, fun j hj => ?_, fun k v hk => ?_, fun a b hab hb => ?_⟩
  · rw [valV_put]
    by_cases e : j = i
    · subst e; rw [if_pos rfl]
    · have hj' : j < i := by omega
      rw [if_neg (fun q => hd j hj' (by have := Sum.inl.inj q; exact_mod_cast this))]
      exact h.has j hj'
  · rw [valV_put] at hk
    split at hk
    · rename_i q
      exact ⟨i, Nat.lt_succ_self _, Sum.inl.inj q⟩
    · obtain ⟨j, h1, h2⟩ := h.only k v hk
      exact ⟨j, Nat.lt_succ_of_lt h1, h2⟩
  · rcases Nat.lt_or_eq_of_le (Nat.le_of_lt_succ hb) with q | q
    · exact h.dist a b hab q
    · subst q; exact hd a hab
theorem Plc.le {m i : Nat} {kvs : List (Key × V)} (hm : 0 < m) (h : Plc m i kvs) : i ≤ m := distinct_le hm h.dist
end Sk
set_option Elab.async false
set_option linter.all false
set_option maxRecDepth 100000
set_option maxHeartbeats 2000000
namespace Sk
theorem naf_len_p (k : Nat) : ∀ (n : Int) (p q : Nat), n.natAbs ≤ k → (naf n p).length = (naf n q).length := by
  induction k with
  | zero =>
    intro n p q h
    have : n = 0 := by omega
    subst this; rw [naf_zero, naf_zero]
  | succ k ih =>
    intro n p q h
    by_cases h0 : n = 0
    · subst h0; rw [naf_zero, naf_zero]
    rcases Int.emod_two_eq n with e | e
    · rw [naf_even e, naf_even e]; exact ih _ _ _ (by omega)
    · rw [naf_odd e, naf_odd e, List.length_cons, List.length_cons]
      by_cases hz : (n - (2 - n % 4)) / 2 = 0
      · rw [hz, naf_zero, naf_zero]
      · rw [ih _ (p + 1) (q + 1) (by omega)]
def wt (n : Int) : Nat := (naf n 0).length
theorem wt_zero : wt 0 = 0 := by unfold wt; rw [naf_zero] <;> rfl
theorem wt_even {n : Int} (h : n % 2 = 0) : wt n = wt (n / 2) := by
  unfold wt
  rw [naf_even h]
  exact naf_len_p _ _ _ _ (Nat.le_refl _)
theorem wt_dbl (n : Int) : wt (2 * n) = wt n := by
  rw [wt_even (by omega), show 2 * n / 2 = n by omega]
theorem wt_one {n : Int} (h : n % 4 = 1) : wt n = wt ((n - 1) / 4) + 1 := by
  unfold wt
  rw [naf_odd (by omega), List.length_cons, show (n - (2 - n % 4)) / 2 = 2 * ((n - 1) / 4) by omega]
  rw [naf_len_p _ (2 * ((n - 1) / 4)) (0 + 1) 0 (Nat.le_refl _)]
  exact congrArg (· + 1) (wt_dbl _)
theorem wt_three {n : Int} (h : n % 4 = 3) : wt n = wt ((n + 1) / 4) + 1 := by
  unfold wt
  rw [naf_odd (by omega), List.length_cons, show (n - (2 - n % 4)) / 2 = 2 * ((n + 1) / 4) by omega]
  rw [naf_len_p _ (2 * ((n + 1) / 4)) (0 + 1) 0 (Nat.le_refl _)]
  exact congrArg (· + 1) (wt_dbl _)
/-- one more or less, one term more at most; beside an odd number no more than it has -/
theorem wt_near : ∀ (k : Nat) (n : Int), n.natAbs ≤ k → (wt (n + 1) ≤ wt n + 1 ∧ wt (n - 1) ≤ wt n + 1) ∧ (n % 2 = 1 → wt (n + 1) ≤ wt n ∧ wt (n - 1) ≤ wt n)
  | 0, n, h => by
    have : n = 0 := by omega
    subst this
    have h1 : wt 1 = 1 := by rw [wt_one (by decide), show ((1 : Int) - 1) / 4 = 0 by decide, wt_zero]
    have h2 : wt (-1) = 1 := by rw [wt_three (by decide), show ((-1 : Int) + 1) / 4 = 0 by decide, wt_zero]
    exact ⟨⟨by show wt 1 ≤ _; omega, by show wt (-1) ≤ _; omega⟩, fun q => absurd q (by decide)⟩
  | k + 1, n, h => by
    by_cases h0 : n = 0
    · subst h0
      exact ⟨(wt_near 0 0 (Nat.le_refl _)).1, fun q => absurd q (by decide)⟩
    have key : n % 4 = 0 ∨ n % 4 = 1 ∨ n % 4 = 2 ∨ n % 4 = 3 := by omega
    rcases key with q | q | q | q
    · have a1 : wt (n + 1) = wt (n / 4) + 1 := by rw [wt_one (by omega), show (n + 1 - 1) / 4 = n / 4 by omega]
      have a2 : wt (n - 1) = wt (n / 4) + 1 := by rw [wt_three (by omega), show (n - 1 + 1) / 4 = n / 4 by omega]
      have a3 : wt n = wt (n / 4) := by rw [wt_even (by omega), wt_even (by omega), show n / 2 / 2 = n / 4 by omega]
      exact ⟨⟨by omega, by omega⟩, fun z => absurd z (by omega)⟩
    · -- n = 4 j + 1
      have a0 : wt n = wt ((n - 1) / 4) + 1 := wt_one q
      have a1 : wt (n - 1) = wt ((n - 1) / 4) := by rw [wt_even (by omega), wt_even (by omega), show (n - 1) / 2 / 2 = (n - 1) / 4 by omega]
      have a2 : wt (n + 1) = wt (2 * ((n - 1) / 4) + 1) := by rw [wt_even (by omega), show (n + 1) / 2 = 2 * ((n - 1) / 4) + 1 by omega]
      have a3 : wt (2 * ((n - 1) / 4) + 1) ≤ wt (2 * ((n - 1) / 4)) + 1 := by
        by_cases hz : (n - 1) / 4 = 0
        · rw [hz]; exact (wt_near 0 0 (Nat.le_refl _)).1.1
        · exact (wt_near k _ (by omega)).1.1
      rw [wt_dbl] at a3
      exact ⟨⟨by omega, by omega⟩, fun _ => ⟨by omega, by omega⟩⟩
    · -- n = 4 j + 2
      have a0 : wt n = wt (n / 2) := wt_even (by omega)
      have ih := (wt_near k (n / 2) (by omega)).2 (by omega)
      have a1 : wt (n + 1) = wt ((n + 2) / 4) + 1 := by rw [wt_three (by omega), show (n + 1 + 1) / 4 = (n + 2) / 4 by omega]
      have a2 : wt (n - 1) = wt ((n - 2) / 4) + 1 := by rw [wt_one (by omega), show (n - 1 - 1) / 4 = (n - 2) / 4 by omega]
      have b1 : wt (n / 2 + 1) = wt ((n + 2) / 4) := by rw [wt_even (by omega), show (n / 2 + 1) / 2 = (n + 2) / 4 by omega]
      have b2 : wt (n / 2 - 1) = wt ((n - 2) / 4) := by rw [wt_even (by omega), show (n / 2 - 1) / 2 = (n - 2) / 4 by omega]
      exact ⟨⟨by omega, by omega⟩, fun z => absurd z (by omega)⟩
    · have a0 : wt n = wt ((n + 1) / 4) + 1 := wt_three q
      have a1 : wt (n + 1) = wt ((n + 1) / 4) := by rw [wt_even (by omega), wt_even (by omega), show (n + 1) / 2 / 2 = (n + 1) / 4 by omega]
      have a2 : wt (n - 1) = wt (2 * ((n + 1) / 4) - 1) := by rw [wt_even (by omega), show (n - 1) / 2 = 2 * ((n + 1) / 4) - 1 by omega]
      have a3 : wt (2 * ((n + 1) / 4) - 1) ≤ wt (2 * ((n + 1) / 4)) + 1 := by
        by_cases hz : (n + 1) / 4 = 0
        · rw [hz]; exact (wt_near 0 0 (Nat.le_refl _)).1.2
        · exact (wt_near k _ (by omega)).1.2
      rw [wt_dbl] at a3
      exact ⟨⟨by omega, by omega⟩, fun _ => ⟨by omega, by omega⟩⟩
theorem wt_succ (n : Int) : wt (n + 1) ≤ wt n + 1 := (wt_near _ n (Nat.le_refl _)).1.1
theorem wt_pred (n : Int) : wt (n - 1) ≤ wt n + 1 := (wt_near _ n (Nat.le_refl _)).1.2
/-- a power of two more or less -/
theorem wt_pow : ∀ (p : Nat) (n s : Int), (s = 1 ∨ s = -1) → wt (n + s * 2 ^ p) ≤ wt n + 1
  | 0, n, s, hs => by
    rw [Int.pow_zero, Int.mul_one]
    rcases hs with rfl | rfl
    · exact wt_succ n
    · exact wt_pred n
  | p + 1, n, s, hs => by
    have e : s * 2 ^ (p + 1) = 2 * (s * 2 ^ p) := by rw [Int.pow_succ, ← Int.mul_assoc, Int.mul_comm]
    rw [e]
    rcases Int.emod_two_eq n with q | q
    · rw [wt_even (n := n) q, show n + 2 * (s * 2 ^ p) = 2 * (n / 2 + s * 2 ^ p) by omega, wt_dbl]
      exact wt_pow p _ s hs
    · cases p with
      | zero =>
        rw [Int.pow_zero, Int.mul_one]
        have h4 : n % 4 = 1 ∨ n % 4 = 3 := by omega
        rcases hs with rfl | rfl <;> rcases h4 with h4 | h4
        · have a0 := wt_one h4
          have a1 : wt (n + 2 * 1) = wt ((n - 1) / 4 + 1) + 1 := by rw [wt_three (by omega), show (n + 2 * 1 + 1) / 4 = (n - 1) / 4 + 1 by omega]
          have := wt_succ ((n - 1) / 4)
          omega
        · have a0 := wt_three h4
          have a1 : wt (n + 2 * 1) = wt ((n + 1) / 4) + 1 := by rw [wt_one (by omega), show (n + 2 * 1 - 1) / 4 = (n + 1) / 4 by omega]
          omega
        · have a0 := wt_one h4
          have a1 : wt (n + 2 * -1) = wt ((n - 1) / 4) + 1 := by rw [wt_three (by omega), show (n + 2 * -1 + 1) / 4 = (n - 1) / 4 by omega]
          omega
        · have a0 := wt_three h4
          have a1 : wt (n + 2 * -1) = wt ((n + 1) / 4 - 1) + 1 := by rw [wt_one (by omega), show (n + 2 * -1 - 1) / 4 = (n + 1) / 4 - 1 by omega]
          have := wt_pred ((n + 1) / 4)
          omega
      | succ p =>
        have e2 : 2 * (s * 2 ^ (p + 1)) = 4 * (s * 2 ^ p) := by
          have h3 : s * (2 ^ p * 2) = (s * 2 ^ p) * 2 := (Int.mul_assoc _ _ _).symm
          rw [Int.pow_succ, h3]; omega
        rw [e2]
        have h4 : n % 4 = 1 ∨ n % 4 = 3 := by omega
        rcases h4 with h4 | h4
        · rw [wt_one (n := n) h4, wt_one (n := n + _) (by omega), show (n + 4 * (s * 2 ^ p) - 1) / 4 = (n - 1) / 4 + s * 2 ^ p by omega]
          have := wt_pow p ((n - 1) / 4) s hs
          omega
        · rw [wt_three (n := n) h4, wt_three (n := n + _) (by omega), show (n + 4 * (s * 2 ^ p) + 1) / 4 = (n + 1) / 4 + s * 2 ^ p by omega]
          have := wt_pow p ((n + 1) / 4) s hs
          omega
def placesF : Nat → Nat → Nat → List Nat
  | 0, _, _ => []
  | f + 1, n, p => if n = 0 then [] else if n % 4 = 1 then p :: placesF f ((n - 1) / 2) (p + 1) else if n % 4 = 3 then p :: placesF f ((n + 1) / 2) (p + 1) else placesF f (n / 2) (p + 1)
theorem placesF_eq : ∀ (f n p : Nat), n ≤ 2 ^ f → placesF (f + 1) n p = (naf (n : Int) p).map (·.2)
  | 0, n, p, h => by
    have h' : n = 0 ∨ n = 1 := by simp at h; omega
    rcases h' with rfl | rfl
    · rw [show ((0 : Nat) : Int) = 0 from rfl, naf_zero] <;> rfl
    · rw [show ((1 : Nat) : Int) = 1 from rfl, naf_odd (by decide), show ((1 : Int) - (2 - 1 % 4)) / 2 = 0 by decide, naf_zero] <;> rfl
  | f + 1, n, p, h => by
    rw [Nat.pow_succ] at h
    have hp : 0 < 2 ^ f := Nat.two_pow_pos f
    by_cases h0 : n = 0
    · subst h0; rw [show ((0 : Nat) : Int) = 0 from rfl, naf_zero] <;> rfl
    have key : n % 4 = 0 ∨ n % 4 = 1 ∨ n % 4 = 2 ∨ n % 4 = 3 := by omega
    unfold placesF
    rw [if_neg h0]
    rcases key with q | q | q | q
    · rw [if_neg (by omega), if_neg (by omega), placesF_eq f (n / 2) (p + 1) (by omega), naf_even (n := (n : Int)) (by omega), show ((n : Int)) / 2 = ((n / 2 : Nat) : Int) by omega]
    · rw [if_pos q, placesF_eq f ((n - 1) / 2) (p + 1) (by omega), naf_odd (n := (n : Int)) (by omega), show ((n : Int) - (2 - (n : Int) % 4)) / 2 = (((n - 1) / 2 : Nat) : Int) by omega, List.map_cons]
    · rw [if_neg (by omega), if_neg (by omega), placesF_eq f (n / 2) (p + 1) (by omega), naf_even (n := (n : Int)) (by omega), show ((n : Int)) / 2 = ((n / 2 : Nat) : Int) by omega]
    · rw [if_neg (by omega), if_pos q, placesF_eq f ((n + 1) / 2) (p + 1) (by omega), naf_odd (n := (n : Int)) (by omega), show ((n : Int) - (2 - (n : Int) % 4)) / 2 = (((n + 1) / 2 : Nat) : Int) by omega, List.map_cons]
theorem size_toT (n : Int) : (toT n).size = 1 + (((naf n 0).map (·.2)).map fun p : Nat => (toT (p : Int)).size).sum := by
  rw [size_toL, toL_toT, List.map_map, List.map_map]
  congr 1
  exact (List.reverse_perm _).map _ |>.sum_nat
def szF : Nat → Nat → Nat
  | 0, _ => 1
  | d + 1, n => 1 + ((placesF 15 n 0).map (szF d)).sum
theorem szF_eq : ∀ (d n : Nat), n < Cb (d + 1) → n ≤ 16384 → szF d n = (toT (n : Int)).size
  | 0, n, h, _ => by
    have : n = 0 := by
      have : n < 1 := h
      omega
    subst this
    rw [show ((0 : Nat) : Int) = 0 from rfl, toT_eq, naf_zero] <;> rfl
  | d + 1, n, h, h2 => by
    rw [size_toT, szF, placesF_eq 14 n 0 h2]
    congr 2
    refine List.map_congr_left fun p hp => ?_
    obtain ⟨x, hx, rfl⟩ := List.mem_map.mp hp
    refine szF_eq d x.2 (Cb_step (by simpa using h) hx) ?_
    have := naf_lt hx
    simp at this
    omega
theorem Cb_ge5 : 16385 ≤ Cb 6 := by
  have h3 : Cb 3 = 3 := by decide
  have h4 : Cb 4 = 5 := by show 2 ^ (Cb 3 - 1) + 1 = 5; rw [h3] <;> rfl
  have h5 : Cb 5 = 17 := by show 2 ^ (Cb 4 - 1) + 1 = 17; rw [h4] <;> rfl
  have h6 : Cb 6 = 65537 := by show 2 ^ (Cb 5 - 1) + 1 = 65537; rw [h5] <;> rfl
  omega
theorem sz_le (n : Nat) (h : n ≤ 16384) : szF 5 n = (toT (n : Int)).size := szF_eq 5 n (Nat.lt_of_lt_of_le (Nat.lt_succ_of_le h) Cb_ge5) h
def tb : List Nat := [1, 2, 3, 5, 4, 5, 8, 7, 6, 7, 8, 9, 8, 9]
theorem tb_eq : ∀ p : Nat, p < 14 → tb.getD p 0 = (toT (p : Int)).size := by
  have h : ∀ p : Nat, p < 14 → tb.getD p 0 = szF 5 p := by decide +kernel
  intro p hp
  rw [← sz_le p (by omega)]
  exact h p hp
theorem sz14 : ∀ p : Nat, p < 14 → (toT (p : Int)).size ≤ 9 := by
  intro p hp
  rw [← tb_eq p hp]
  exact (by decide : ∀ p : Nat, p < 14 → tb.getD p 0 ≤ 9) p hp
def costF : Nat → Nat → Nat → Nat
  | 0, _, _ => 0
  | f + 1, n, p => if n = 0 then 0 else if n % 4 = 1 then tb.getD p 0 + costF f ((n - 1) / 2) (p + 1) else if n % 4 = 3 then tb.getD p 0 + costF f ((n + 1) / 2) (p + 1) else costF f (n / 2) (p + 1)
theorem costF_eq : ∀ (f n p : Nat), costF f n p = ((placesF f n p).map fun q => tb.getD q 0).sum
  | 0, _, _ => rfl
  | f + 1, n, p => by
    unfold costF placesF
    split
    · rfl
    · split
      · rw [List.map_cons, List.sum_cons, costF_eq f]
      · split
        · rw [List.map_cons, List.sum_cons, costF_eq f]
        · exact costF_eq f _ _
theorem sz_cost (n : Nat) (h : n ≤ 4096) : (toT (n : Int)).size = 1 + costF 13 n 0 := by
  rw [size_toT, costF_eq, placesF_eq 12 n 0 h]
  congr 2
  refine List.map_congr_left fun p hp => ?_
  obtain ⟨x, hx, rfl⟩ := List.mem_map.mp hp
  have := naf_le (m := 12) (by simpa using h) hx
  exact (tb_eq x.2 (by omega)).symm
theorem height_toT : ∀ (d : Nat) (n : Int), n.natAbs < Cb (d + 1) → (toT n).height ≤ d
  | 0, n, h => by
    have : n = 0 := by
      have : n.natAbs < 1 := h
      omega
    subst this
    rw [toT_eq, naf_zero]; exact Nat.le_refl _
  | d + 1, n, h => by
    refine height_le_of fun x hx => ?_
    rw [toL_toT] at hx
    obtain ⟨y, hy, rfl⟩ := List.mem_map.mp hx
    have := height_toT d (y.2 : Int) (by have := Cb_step h (List.mem_reverse.mp hy); simpa using this)
    exact Nat.succ_le_succ this
end Sk
set_option Elab.async false
set_option linter.all false
set_option maxRecDepth 100000
set_option maxHeartbeats 2000000
namespace Sk
theorem wt_add_list : ∀ (l : List (Int × Nat)) (n : Int), (∀ x ∈ l, x.1 = 1 ∨ x.1 = -1) → wt (n + sumP l) ≤ wt n + l.length
  | [], n, _ => by show wt (n + 0) ≤ wt n; rw [Int.add_zero]; exact Nat.le_refl _
  | (s, p) :: r, n, h => by
    have h1 := wt_add_list r (n + s * 2 ^ p) fun x hx => h x (List.mem_cons_of_mem _ hx)
    have h2 := wt_pow p n s (h (s, p) List.mem_cons_self)
    show wt (n + (s * 2 ^ p + sumP r)) ≤ wt n + (r.length + 1)
    rw [← Int.add_assoc]
    omega
theorem wt_add (n c : Int) : wt (n + c) ≤ wt n + wt c := by
  have h := wt_add_list (naf c 0) n fun x hx => naf_sign hx
  rw [naf_sum _ c (Nat.le_refl _) 0] at h
  simpa [wt] using h
/-- a sum of i signed powers of two, told apart at the place 14 -/
structure PlW (i : Nat) (n : Int) : Prop where
  wt : wt n ≤ i
  big : n.natAbs ≤ i * 2 ^ 2799
  part : ∃ (B r : Int) (j : Nat), n = 16384 * B + r ∧ j ≤ i ∧ Sk.wt B ≤ j ∧ r.natAbs ≤ (i - j) * 8192
theorem PlW.next {i : Nat} {n s : Int} {p : Nat} (h : PlW i n) (hs : s = 1 ∨ s = -1) (hp : p < 2800) : PlW (i + 1) (n + s * 2 ^ p) := by
  have hp2 : 2 ^ p ≤ 2 ^ 2799 := Nat.pow_le_pow_right (by decide) (by omega)
  have hc : ((2 ^ p : Nat) : Int) = (2 : Int) ^ p := by norm_cast
  refine ⟨Nat.le_trans (wt_pow p n s hs) (Nat.succ_le_succ h.wt), ?_, ?_⟩
  · have h1 := h.big
    rw [Nat.succ_mul]
    generalize (2 : Nat) ^ 2799 = X at *
    generalize i * X = Y at *
    rw [← hc]
    generalize (2 : Nat) ^ p = Z at *
    rcases hs with rfl | rfl <;> omega
  · obtain ⟨B, r, j, h1, h2, h3, h4⟩ := h.part
    by_cases hq : 14 ≤ p
    · refine ⟨B + s * 2 ^ (p - 14), r, j + 1, ?_, by omega, Nat.le_trans (wt_pow _ B s hs) (by omega), by rw [Nat.add_sub_add_right]; exact h4⟩
      have e : (2 : Int) ^ p = 16384 * 2 ^ (p - 14) := by
        have : p = 14 + (p - 14) := by omega
        rw [this, Int.pow_add, Nat.add_sub_cancel_left] <;> rfl
      rw [e, h1, Int.mul_add, ← Int.mul_assoc s, Int.mul_comm s, Int.mul_assoc]
      omega
    · refine ⟨B, r + s * 2 ^ p, j, by rw [h1]; omega, by omega, h3, ?_⟩
      have e : 2 ^ p ≤ 2 ^ 13 := Nat.pow_le_pow_right (by decide) (by omega)
      have e2 : (2 : Nat) ^ 13 = 8192 := by decide
      rw [e2] at e
      rw [← hc]
      generalize (2 : Nat) ^ p = Z at *
      rcases hs with rfl | rfl <;> omega
theorem PlW.le {i : Nat} {n : Int} (h : PlW i n) (hi : i ≤ 5) : PlW 5 n := by
  obtain ⟨B, r, j, h1, h2, h3, h4⟩ := h.part
  exact ⟨Nat.le_trans h.wt hi, Nat.le_trans h.big (Nat.mul_le_mul_right _ hi), B, r, j, h1, by omega, h3, by omega⟩
theorem sum_all : ∀ (l : List Nat) (f : Nat → Nat) (m : Nat), (∀ p ∈ l, f p ≤ m) → (l.map f).sum ≤ m * l.length
  | [], _, _, _ => Nat.zero_le _
  | p :: l, f, m, h => by
    have h1 := sum_all l f m fun q hq => h q (List.mem_cons_of_mem _ hq)
    have h2 := h p List.mem_cons_self
    rw [List.map_cons, List.sum_cons, List.length_cons, Nat.mul_succ]
    omega
end Sk
set_option Elab.async false
set_option linter.all false
set_option maxRecDepth 100000
set_option maxHeartbeats 2000000
namespace Sk
open PySem L2 Evl
end Sk
set_option Elab.async false
set_option linter.all false
set_option maxRecDepth 100000
set_option maxHeartbeats 1000000
namespace Sk
open PySem L2 Evl
end Sk
set_option Elab.async false
set_option linter.all false
set_option maxRecDepth 100000
set_option maxHeartbeats 2000000
namespace Sk
open PySem L2 Evl
end Sk
set_option Elab.async false
set_option linter.all false
set_option maxRecDepth 100000
set_option maxHeartbeats 1000000
namespace Sk
open PySem L2 Evl
/-- the value of a list of terms, in any order -/
def sumT (l : List (Int × T)) : Int := (l.map fun x => x.1 * 2 ^ x.2.val.toNat).sum
theorem sumT_nil : sumT [] = 0 := rfl
theorem sumT_cons (x : Int × T) (l : List (Int × T)) : sumT (x :: l) = x.1 * 2 ^ x.2.val.toNat + sumT l := by unfold sumT; rw [List.map_cons, List.sum_cons]
theorem sumT_app (l l' : List (Int × T)) : sumT (l ++ l') = sumT l + sumT l' := by unfold sumT; rw [List.map_append, List.sum_append]
theorem sumT_ofL (l : List (Int × T)) : (ofL l).val = sumT l := val_ofL l
/-- how great an exponent may become -/
def Near (e x : T) : Prop := x.size ≤ e.size + 40 * (18 + 3 * e.toL.length) ∧ x.height ≤ max e.height 6
theorem Near.refl (e : T) : Near e e := ⟨Nat.le_add_right _ _, Nat.le_max_left _ _⟩
structure TermsAt (e : T) (c : Int) (l : List (Int × T)) : Prop where
  len : l.length = (naf c 0).length
  it : ∀ (i : Nat) (s : Int) (p : Nat) (x : Int × T), (naf c 0)[i]? = some (s, p) → l[i]? = some x → x.1 = s ∧ x.2.can ∧ x.2.val = e.val + (p : Int) ∧ Near e x.2
theorem TermsAt.get {e : T} {c : Int} {l : List (Int × T)} (h : TermsAt e c l) {i : Nat} {x : Int × T} (hx : l[i]? = some x) : ∃ s p, (naf c 0)[i]? = some (s, p) ∧ x.1 = s ∧ x.2.can ∧ x.2.val = e.val + (p : Int) ∧ Near e x.2 := by
  have hi := (List.getElem?_eq_some_iff.mp hx).1
  rw [h.len] at hi
  have hq' : (naf c 0)[i]? = some ((naf c 0)[i].1, (naf c 0)[i].2) := List.getElem?_eq_getElem hi
  exact ⟨_, _, hq', h.it i _ _ x hq' hx⟩
theorem TermsAt.sum {e : T} {c : Int} {l : List (Int × T)} (h : TermsAt e c l) (h0 : 0 ≤ e.val) : sumT l = c * 2 ^ e.val.toNat := by
  have h1 := naf_sum c.natAbs c (Nat.le_refl _) e.val.toNat
  have key : ∀ (a : List (Int × Nat)) (b : List (Int × T)), b.length = a.length → (∀ (i : Nat) (s : Int) (p : Nat) (x : Int × T), a[i]? = some (s, p) → b[i]? = some x → x.1 = s ∧ x.2.val = e.val + (p : Int)) → sumT b = sumP a * 2 ^ e.val.toNat := by
    intro a
    induction a with
    | nil => intro b hb _; rw [List.length_eq_zero_iff.mp hb]; simp [sumT, sumP]
    | cons y r ih =>
      intro b hb hk
      cases b with
      | nil => cases hb
      | cons x b =>
        obtain ⟨s, p⟩ := y
        obtain ⟨k1, k2⟩ := hk 0 s p x rfl rfl
        rw [sumT_cons, ih b (by simpa using hb) (fun i s p x h1 h2 => hk (i + 1) s p x (by simpa using h1) (by simpa using h2)), k1, k2, sumP, Int.add_mul]
        congr 1
        have : (e.val + (p : Int)).toNat = p + e.val.toNat := by omega
        rw [this, Int.pow_add, Int.mul_assoc]
  have h2 := key (naf c 0) l h.len (fun i s p x h1 h2 => ⟨(h.it i s p x h1 h2).1, (h.it i s p x h1 h2).2.2.1⟩)
  rw [h2]
  congr 1
  have h3 := naf_sum c.natAbs c (Nat.le_refl _) 0
  rw [h3, Int.pow_zero, Int.mul_one]
theorem TermsAt.gap {e : T} {c : Int} {l : List (Int × T)} (h : TermsAt e c l) : l.Pairwise (fun x y => x.2.val + 2 ≤ y.2.val) := by
  rw [List.pairwise_iff_getElem]
  intro i j hi hj hij
  obtain ⟨s, p, g1, _, _, g2, _⟩ := h.get (List.getElem?_eq_getElem hi)
  obtain ⟨s', p', k1, _, _, k2, _⟩ := h.get (List.getElem?_eq_getElem hj)
  have := List.pairwise_iff_getElem.mp (naf_gap c.natAbs c (Nat.le_refl _) 0) i j (by rw [← h.len]; exact hi) (by rw [← h.len]; exact hj) hij
  rw [(List.getElem?_eq_some_iff.mp g1).2, (List.getElem?_eq_some_iff.mp k1).2] at this
  have h5 : p + 2 ≤ p' := this
  rw [g2, k2]
  omega
theorem TermsAt.mem {e : T} {c : Int} {l : List (Int × T)} (h : TermsAt e c l) {x : Int × T} (hx : x ∈ l) : (x.1 = 1 ∨ x.1 = -1) ∧ x.2.can ∧ e.val ≤ x.2.val ∧ x.2.val ≤ e.val + (bl c.natAbs : Int) ∧ Near e x.2 := by
  obtain ⟨i, hi⟩ := List.mem_iff_getElem?.mp hx
  obtain ⟨s, p, g1, g2, g3, g4, g5⟩ := h.get hi
  have hm := List.mem_of_getElem? g1
  have h1 := naf_sign hm
  have h2 := naf_le (n := c) (m := bl c.natAbs) (Nat.le_of_lt (lt_bl _)) hm
  have h3 : p ≤ bl c.natAbs := h2
  exact ⟨by rw [g2]; exact h1, g3, by omega, by omega, g5⟩
/-- what is asked of an exponent -/
structure ExpOk (e : T) : Prop where
  can : e.can
  nn : 0 ≤ e.val
  ht : e.height ≤ 43
  sz : e.size < 80000
  ln : e.toL.length ≤ 800
theorem ExpOk.sub {e : T} (h : ExpOk e) : ∀ x ∈ e.toL, x.2.size < 90000 := fun x hx => by have := mem_size hx; have := h.sz; omega
end Sk
set_option Elab.async false
set_option linter.all false
set_option maxRecDepth 100000
set_option maxHeartbeats 1000000
namespace Sk
open PySem L2 Evl
def cntT (l : List (Int × T)) : Nat := (l.map fun x => x.1.natAbs).sum
theorem cntT_cons (x : Int × T) (l : List (Int × T)) : cntT (x :: l) = x.1.natAbs + cntT l := by unfold cntT; rw [List.map_cons, List.sum_cons]
structure RowOk (rw : List (Int × T)) (many : Nat) : Prop where
  ex : ∀ x ∈ rw, ExpOk x.2
  asc : rw.Pairwise (fun a b => a.2.val ≤ b.2.val)
  tsg : ∀ (i : Nat) (x : Int × T), many ≤ i → rw[i]? = some x → x.1 = 1 ∨ x.1 = -1
  tgap : (rw.drop many).Pairwise (fun a b => a.2.val + 2 ≤ b.2.val)
  cb : ∀ x ∈ rw, x.1.natAbs ≤ 1000
  len : rw.length ≤ 2000
  many_le : many ≤ rw.length
theorem drop_cons {α : Type} {l : List α} {i : Nat} {a : α} (h : l[i]? = some a) : l.drop i = a :: l.drop (i + 1) := by
  obtain ⟨g1, g2⟩ := List.getElem?_eq_some_iff.mp h
  rw [List.drop_eq_getElem_cons g1, g2]
end Sk
set_option Elab.async false
set_option linter.all false
set_option maxRecDepth 100000
set_option maxHeartbeats 1000000
namespace Sk
open PySem PySem.Spec PyProof.Rows HT L2 Evl
end Sk
set_option Elab.async false
set_option linter.all false
set_option maxRecDepth 100000
set_option maxHeartbeats 2000000
namespace Sk
open PySem L2 Evl
inductive Rows : Nat → List (Nat × Nat × Nat) → Prop
  | one : Rows 1 []
  | cons {m n l : Nat} {rs : List (Nat × Nat × Nat)} : 1 < m → m ≤ 10000 → IsRow m n l → Rows (n - l) rs → Rows m ((m, n, l) :: rs)
/-- a number in its form, short enough for the machine -/
structure T.ok (t : T) : Prop where
  can : t.can
  nn : t.nn
  len : t.toL.length < 100000
theorem can_toL : ∀ {t : T}, t.can → ∀ x ∈ t.toL, (x.1 = 1 ∨ x.1 = -1) ∧ 0 ≤ x.2.val ∧ x.2.can
  | .nil, _, x, hx => by cases hx
  | .cons s e r, h, x, hx => by
    rcases List.mem_cons.mp hx with rfl | hx
    · exact ⟨h.1.1, h.1.2.1, h.2.1⟩
    · exact can_toL h.2.2 x hx
theorem T.ok.mem {t : T} (h : t.ok) {x : Int × T} (hx : x ∈ t.toL) : (x.1 = 1 ∨ x.1 = -1) ∧ 0 ≤ x.2.val ∧ x.2.ok :=
  ⟨(can_toL h.can x hx).1, (can_toL h.can x hx).2.1, (can_toL h.can x hx).2.2, (nn_toL h.nn x hx).2, (nn_toL h.nn x hx).1.2.2.1⟩
/-- the modulus at a place of the rows -/
def modAt : List (Nat × Nat × Nat) → Nat
  | [] => 1
  | (m, _, _) :: _ => m
theorem Rows.mod {m : Nat} {rs : List (Nat × Nat × Nat)} (h : Rows m rs) : m = modAt rs := by cases h <;> rfl
end Sk
set_option Elab.async false
set_option linter.all false
set_option maxRecDepth 100000
set_option maxHeartbeats 2000000
namespace Sk
open PySem L2 Evl
end Sk
set_option Elab.async false
set_option linter.all false
set_option maxRecDepth 100000
set_option maxHeartbeats 2000000
namespace Sk
open PySem L2 Evl
section
variable {K : PySem.W.Frag} {σ : L2.St} {H : Hp} {ta tb : TE} {tx : TA}
/-- [a, b, ..][k] -/
theorem ev_pickL {xs : List V} {k : Nat} {v : V} (h : EvA tx σ H xs) (hz : xs.length ≤ 1000) (hk : Ev tb σ H (.int (k : Int))) (hv : xs[k]? = some v) : Ev (tOp (rIxL K) (tLst tx) tb) σ H v :=
  ev_opL1 (el_lst h (by omega)) (fun H1 e => hk.mono e) fun p H1 hp e => rv_ixL (sq_of hp) (atI_nat hv)
theorem ints_at {l : List Int} {i : Nat} (h : i < l.length) : atI (l.map V.int) (i : Int) = some (.int (l.getD i 0)) := by
  refine atI_nat ?_
  rw [List.getElem?_map, List.getElem?_eq_getElem h, List.getD_eq_getElem?_getD, List.getElem?_eq_getElem h] <;> rfl
theorem getD_mem {l : List Int} {i : Nat} (h : i < l.length) : l.getD i 0 ∈ l := by
  rw [List.getD_eq_getElem?_getD, List.getElem?_eq_getElem h]
  exact List.getElem_mem h
theorem ev_ints {a : Addr} {l : List Int} {i : Nat} {k : Int} (ho : Ev ta σ H (.ref a)) (hi : Ev tb σ H (.int k)) (hk : k = (i : Int)) (hs : SqL K H a (l.map V.int)) (h : i < l.length) : Ev (tOp (rIxL K) ta tb) σ H (.int (l.getD i 0)) :=
  ev_at ho hi hs (by rw [hk]; exact ints_at h)
end
/-- a list of ints -/
def IntsL (l : List Int) : VP := fun v H => ∃ p, v = .ref p ∧ H p = some (.lst (l.map V.int))
theorem intsL (l : List Int) : Mono (IntsL l) := fun v H H' e ⟨p, h1, h2⟩ => ⟨p, h1, e p _ h2⟩
/-- so many numbers, each from 0 to 999 -/
def Drawn (n : Nat) : VP := fun v H => ∃ l : List Int, l.length = n ∧ (∀ x ∈ l, 0 ≤ x ∧ x < 1000) ∧ IntsL l v H
theorem drawn (n : Nat) : Mono (Drawn n) := fun v H H' e ⟨l, h1, h2, h3⟩ => ⟨l, h1, h2, intsL l _ _ _ e h3⟩
end Sk
set_option Elab.async false
set_option linter.all false
set_option maxRecDepth 100000
set_option maxHeartbeats 2000000
namespace Sk
open PySem L2 Evl
theorem snocP {m : Int} {ns : List Int} {v : Int} (h1 : ∀ w ∈ ns, 0 ≤ w ∧ w < m) (h2 : 0 ≤ v ∧ v < m) : ∀ w ∈ ns ++ [v], 0 ≤ w ∧ w < m := fun w hw => by
  rcases List.mem_append.mp hw with h | h
  · exact h1 w h
  · rw [List.mem_singleton.mp h]; exact h2
end Sk
set_option Elab.async false
set_option linter.all false
set_option maxRecDepth 100000
set_option maxHeartbeats 2000000
namespace Sk
open PySem L2 Evl
theorem naf_ne {n : Int} {p : Nat} (h : n ≠ 0) : naf n p ≠ [] := fun z => by
  have := naf_sum _ n (Nat.le_refl _) p
  rw [z] at this
  have h1 : n * 2 ^ p = 0 := this.symm
  have h2 : (2 : Int) ^ p > 0 := Int.pow_pos (by decide)
  rcases Int.mul_eq_zero.mp h1 with h | h
  · contradiction
  · omega
end Sk
set_option Elab.async false
set_option linter.all false
set_option maxRecDepth 100000
set_option maxHeartbeats 2000000
namespace Sk
open PySem L2 Evl
section
variable {K : PySem.W.Frag} {σ : L2.St} {H : Hp} {te tl : TE} {a j : Nat}
theorem ev_maxL {l : List Int} {m : Int} (h : ER te σ H (fun v H2 => ∃ p, v = .ref p ∧ H2 p = some (.lst (l.map V.int)))) (hm : m ∈ l) (hle : ∀ y ∈ l, y ≤ m) : Ev (tCB (rMax K) (tCons te tNil)) σ H (.int m) := fun H1 e Q q =>
  h H1 e _ fun v H2 e2 ⟨p, hv, hp⟩ => ⟨p, l, by rw [hv], sq_of hp, List.length_pos_of_mem hm, fun m' h1 h2 => by
    have : m' = m := Int.le_antisymm (hle _ h1) (h2 _ hm)
    rw [this]; exact q H2 e2⟩
end
end Sk
set_option Elab.async false
set_option linter.all false
set_option maxRecDepth 100000
set_option maxHeartbeats 2000000
namespace Sk
open PySem L2 Evl
/-- what stands at the next exponent, if it is the very next -/
def nextC (ws : List Nat) (cf : Nat → Int) (at' ex : Nat) : Int := if ws[at']? = some ex then cf ex else 0
def restA (ws : List Nat) (cf : Nat → Int) (k : Nat) : Nat := ((ws.drop k).map fun w => (cf w).natAbs + 2).sum
def restV (ws : List Nat) (cf : Nat → Int) (k : Nat) : Int := ((ws.drop k).map fun w => cf w * 2 ^ w).sum
/-- ahead of a turn -/
structure RowsI (ws : List Nat) (cf : Nat → Int) (V : Int) (P M i at' ex : Nat) (c : Int) (rows : List (Int × Nat)) : Prop where
  le : at' ≤ ws.length
  up : ∀ j w, at' ≤ j → ws[j]? = some w → ex ≤ w
  gap : rows.Pairwise (fun x y => x.2 + 2 ≤ y.2)
  sg : ∀ x ∈ rows, x.1 = 1 ∨ x.1 = -1
  last : ∀ x ∈ rows, x.2 + 2 ≤ ex ∨ (x.2 + 1 = ex ∧ (c + nextC ws cf at' ex) % 2 = 0)
  val : sumP rows + c * 2 ^ ex + restV ws cf at' = V
  pot : 2 * (restA ws cf at' + c.natAbs) + (if ws[at']? = some ex then 0 else 1) + i ≤ P
  ht : ex ≤ M + i
  len : rows.length ≤ i
/-- within a turn, behind the next count was taken -/
structure RowsM (ws : List Nat) (cf : Nat → Int) (V : Int) (P M i at' ex : Nat) (c : Int) (rows : List (Int × Nat)) : Prop where
  le : at' ≤ ws.length
  up : ∀ j w, at' ≤ j → ws[j]? = some w → ex + 1 ≤ w
  gap : rows.Pairwise (fun x y => x.2 + 2 ≤ y.2)
  sg : ∀ x ∈ rows, x.1 = 1 ∨ x.1 = -1
  last : ∀ x ∈ rows, x.2 + 2 ≤ ex ∨ (x.2 + 1 = ex ∧ c % 2 = 0)
  val : sumP rows + c * 2 ^ ex + restV ws cf at' = V
  pot : 2 * (restA ws cf at' + c.natAbs) + 4 + i ≤ P ∨ (2 * (restA ws cf at' + c.natAbs) + 1 + i ≤ P ∧ c ≠ 0)
  ht : ex ≤ M + i
  len : rows.length ≤ i
section
variable {ws : List Nat} {cf : Nat → Int} {V c : Int} {P M i at' ex : Nat} {rows : List (Int × Nat)}
theorem restV_step {w : Nat} (h : ws[at']? = some w) : restV ws cf at' = cf w * 2 ^ w + restV ws cf (at' + 1) := by
  obtain ⟨h1, h2⟩ := List.getElem?_eq_some_iff.mp h
  unfold restV
  rw [List.drop_eq_getElem_cons h1, List.map_cons, List.sum_cons, h2]
theorem restA_step {w : Nat} (h : ws[at']? = some w) : restA ws cf at' = (cf w).natAbs + 2 + restA ws cf (at' + 1) := by
  obtain ⟨h1, h2⟩ := List.getElem?_eq_some_iff.mp h
  unfold restA
  rw [List.drop_eq_getElem_cons h1, List.map_cons, List.sum_cons, h2]
/-- the next count is taken -/
theorem RowsI.take (h : RowsI ws cf V P M i at' ex c rows) {w : Nat} (hw : ws[at']? = some w) (hs : ws.Pairwise (· < ·)) (hM : w ≤ M) (hc : c = 0 ∨ w = ex) : RowsM ws cf V P M i (at' + 1) w (c + cf w) rows := by
  obtain ⟨h1, h2⟩ := List.getElem?_eq_some_iff.mp hw
  have hge := h.up at' w (Nat.le_refl _) hw
  have hmul := restA_step (cf := cf) hw
  have hp := h.pot
  refine ⟨h1, fun j v hj hv => ?_, h.gap, h.sg, fun x hx => ?_, ?_, .inl ?_, by omega, h.len⟩
  · obtain ⟨h3, h4⟩ := List.getElem?_eq_some_iff.mp hv
    have := List.pairwise_iff_getElem.mp hs at' j h1 h3 (by omega)
    omega
  · rcases h.last x hx with q | ⟨q1, q2⟩
    · exact .inl (by omega)
    · by_cases e : w = ex
      · subst e
        refine .inr ⟨q1, ?_⟩
        unfold nextC at q2
        rw [if_pos hw] at q2
        exact q2
      · exact .inl (by omega)
  · have hv := h.val
    rw [restV_step hw] at hv
    rcases hc with rfl | rfl
    · rw [Int.zero_mul] at hv
      rw [Int.zero_add]
      omega
    · rw [Int.add_mul]
      omega
  · rw [hmul] at hp
    generalize restA ws cf (at' + 1) = A at *
    split at hp <;> omega
end
end Sk
set_option Elab.async false
set_option linter.all false
set_option maxRecDepth 100000
set_option maxHeartbeats 2000000
namespace Sk
open PySem L2 Evl
end Sk
set_option Elab.async false
set_option linter.all false
set_option maxRecDepth 100000
set_option maxHeartbeats 1000000
namespace Sk
open PySem L2 Evl PyProof.Rows
end Sk
set_option Elab.async false
set_option linter.all false
set_option maxRecDepth 100000
set_option maxHeartbeats 2000000
namespace Sk
open PySem L2 Evl
end Sk
set_option Elab.async false
set_option linter.all false
set_option maxRecDepth 100000
set_option maxHeartbeats 2000000
namespace Sk
open PySem L2 Evl
theorem gap_len : ∀ (l : List (Int × Nat)) (p m : Nat), l.Pairwise (fun x y => x.2 + 2 ≤ y.2) → (∀ x ∈ l, p ≤ x.2 ∧ x.2 ≤ m) → 2 * l.length ≤ m + 2 - p
  | [], p, m, _, _ => Nat.zero_le _
  | [x], p, m, _, h => by
    have := h x List.mem_cons_self
    show 2 * 1 ≤ _
    omega
  | x :: y :: l, p, m, hg, h => by
    have hg' := List.pairwise_cons.mp hg
    have hx := h x List.mem_cons_self
    have ih := gap_len (y :: l) (x.2 + 2) m hg'.2 fun z hz => ⟨hg'.1 z hz, (h z (List.mem_cons_of_mem _ hz)).2⟩
    have hy := hg'.1 y List.mem_cons_self
    have hy2 := (h y (List.mem_cons_of_mem _ List.mem_cons_self)).2
    rw [List.length_cons]
    omega
theorem sz128 : ∀ p : Nat, p < 128 → (toT (p : Int)).size ≤ 20 := by
  have h : ∀ p : Nat, p < 128 → costF 13 p 0 ≤ 19 := by decide +kernel
  intro p hp
  rw [sz_cost p (by omega)]
  have := h p hp
  omega
end Sk
set_option Elab.async false
set_option linter.all false
set_option maxRecDepth 100000
set_option maxHeartbeats 2000000
namespace Sk
open PySem L2 Evl
/-- signs are small (and lists not too long for the machine) -/
def T.sm : T → Prop
  | .nil => True
  | .cons s e r => (s.natAbs ≤ 3 ∧ e.toL.length < 100000) ∧ e.sm ∧ r.sm
end Sk
set_option Elab.async false
set_option linter.all false
set_option maxRecDepth 100000
set_option maxHeartbeats 2000000
namespace Sk
open PySem L2 Evl
def towT : Nat → T
  | 0 => .nil
  | n + 1 => .cons 1 (towT n) .nil
end Sk
set_option Elab.async false
set_option linter.all false
set_option maxRecDepth 100000
set_option maxHeartbeats 2000000
namespace Sk
open PySem L2 Evl
/-- a term that may stand in a spoilt number -/
structure TermOk (x : Int × T) : Prop where
  sg : x.1.natAbs ≤ 3
  sm : x.2.sm
  ht : x.2.height ≤ 7
  sz : x.2.size ≤ 60
  le : x.2.can → x.2.val ≤ 400
structure Spo (l : List (Int × T)) : Prop where
  ok : ∀ x ∈ l, TermOk x
  sz : (l.map fun x => x.2.size).sum ≤ 250
theorem sum_set (l : List (Int × T)) (i : Nat) (a : Int × T) : ((l.set i a).map fun x => x.2.size).sum ≤ (l.map fun x => x.2.size).sum + a.2.size := by
  induction l generalizing i with
  | nil => exact Nat.zero_le _
  | cons x l ih =>
    cases i with
    | zero => rw [List.set_cons_zero, List.map_cons, List.map_cons, List.sum_cons, List.sum_cons]; omega
    | succ i =>
      rw [List.set_cons_succ, List.map_cons, List.map_cons, List.sum_cons, List.sum_cons]
      have := ih i
      omega
theorem sum_ins (l : List (Int × T)) (n : Nat) (a : Int × T) : ((l.take n ++ [a] ++ l.drop n).map fun x => x.2.size).sum = (l.map fun x => x.2.size).sum + a.2.size := by
  have h : (l.map fun x => x.2.size).sum = ((l.take n).map fun x => x.2.size).sum + ((l.drop n).map fun x => x.2.size).sum := by
    rw [← List.sum_append, ← List.map_append, List.take_append_drop]
  rw [h, List.map_append, List.map_append, List.sum_append, List.sum_append, List.map_cons, List.sum_cons]
  show _ + (a.2.size + 0) + _ = _
  omega
section
variable {l : List (Int × T)} {a : Int × T}
theorem Spo.set (h : ∀ x ∈ l, TermOk x) (hs : (l.map fun x => x.2.size).sum ≤ 190) (ha : TermOk a) (i : Nat) : Spo (l.set i a) := by
  refine ⟨fun x hx => ?_, ?_⟩
  · rcases List.mem_or_eq_of_mem_set hx with q | q
    · exact h x q
    · rw [q]; exact ha
  · have h1 := sum_set l i a
    have h2 := ha.sz
    omega
theorem Spo.ins (h : ∀ x ∈ l, TermOk x) (hs : (l.map fun x => x.2.size).sum ≤ 190) (ha : TermOk a) (n : Nat) : Spo (l.take n ++ [a] ++ l.drop n) := by
  refine ⟨fun x hx => ?_, ?_⟩
  · rcases List.mem_append.mp hx with q | q
    · rcases List.mem_append.mp q with q | q
      · exact h x (List.mem_of_mem_take q)
      · rw [List.mem_singleton.mp q]; exact ha
    · exact h x (List.mem_of_mem_drop q)
  · rw [sum_ins]
    have h2 := ha.sz
    omega
theorem Spo.rev (h : ∀ x ∈ l, TermOk x) (hs : (l.map fun x => x.2.size).sum ≤ 190) : Spo l.reverse := by
  refine ⟨fun x hx => h x (List.mem_reverse.mp hx), ?_⟩
  rw [List.map_reverse, List.sum_reverse]
  omega
end
end Sk
set_option Elab.async false
set_option linter.all false
set_option maxRecDepth 100000
set_option maxHeartbeats 1000000
namespace Sk
open PySem L2 Evl
/-- two rows on the way into one, the least first -/
structure Mrg (A B : List (Int × T)) (i j : Nat) (rw : List (Int × T)) : Prop where
  mem : ∀ x ∈ rw, x ∈ A ∨ x ∈ B
  asc : rw.Pairwise (fun a b => a.2.val ≤ b.2.val)
  le : ∀ x ∈ rw, ∀ y, y ∈ A.take i ∨ y ∈ B.take j → x.2.val ≤ y.2.val
  sum : sumT rw + sumT (A.take i) + sumT (B.take j) = sumT A + sumT B
  len : rw.length + i + j = A.length + B.length
theorem Mrg.swap {A B rw} {i j : Nat} (h : Mrg A B i j rw) : Mrg B A j i rw := ⟨fun x hx => (h.mem x hx).symm, h.asc, fun x hx y hy => h.le x hx y hy.symm, by have := h.sum; omega, by have := h.len; omega⟩
/-- what plus takes -/
structure PlOk (t : T) : Prop where
  can : t.can
  ht : t.height ≤ 43
  sz : ∀ x ∈ t.toL, x.2.size < 80000
  ln : t.toL.length ≤ 700
  sub : ∀ x ∈ t.toL, x.2.toL.length ≤ 800
theorem nn_of_ex : ∀ {t : T}, t.can → (∀ x ∈ t.toL, x.2.size < 100000) → t.nn
  | .nil, _, _ => True.intro
  | .cons s e r, h, hz => by
    have h0 : e.size < 100000 := hz (s, e) List.mem_cons_self
    have h1 := len_size e
    exact ⟨⟨h.1.1, h.1.2.1, by omega, h.2.1⟩, nn_of_can h.2.1 h0, nn_of_ex h.2.2 fun x hx => hz x (List.mem_cons_of_mem _ hx)⟩
theorem sz_ex {t : T} {m : Nat} (h : t.size < m) : ∀ x ∈ t.toL, x.2.size < m := fun x hx => Nat.lt_trans (mem_size hx).1 h
theorem PlOk.nn {t : T} (h : PlOk t) : t.nn := nn_of_ex h.can fun x hx => Nat.lt_trans (h.sz x hx) (by decide)
theorem PlOk.ex {t : T} (h : PlOk t) : ∀ x ∈ t.toL, (x.1 = 1 ∨ x.1 = -1) ∧ ExpOk x.2 := fun x hx => by
  have h1 := can_toL h.can x hx
  have h2 := mem_size hx
  have := h.ht
  have := h.sz x hx
  exact ⟨h1.1, ⟨h1.2.2, h1.2.1, by omega, by omega, h.sub x hx⟩⟩
section
variable {K : PySem.W.Frag} {σ : L2.St} {H : Hp} {te tf ta tl : TE} {R : List V → Hp → Prop}
theorem er_catV {l : Addr} {xs : List V} (hv : Ev te σ H (.ref l)) (hl : H l = some (.lst xs)) (h' : ER tl σ H (fun v H2 => ∃ p zs, v = .ref p ∧ H2 p = some (.lst zs) ∧ R zs H2)) (m : MonoL R) (hz : ∀ zs H2, R zs H2 → xs.length + zs.length ≤ 100000) : ER (tOp rCat te tl) σ H (fun v H2 => ∃ p zs, v = .ref p ∧ H2 p = some (.lst (xs ++ zs)) ∧ R zs H2) := fun H1 e Q q =>
  hv H1 e _ fun H2 e2 => h' H2 (e.trans e2) _ fun v H3 e3 ⟨p, zs, hp, hp2, hR⟩ => ⟨l, p, xs, zs, rfl, hp, (e.trans (e2.trans e3)) l _ hl, hp2, sz_of (hz zs H3 hR), fun r hr => q _ _ ((e2.trans e3).trans (Ex.new hr)) ⟨r, zs, rfl, upd_same, m zs _ _ (Ex.new hr) hR⟩⟩
end
end Sk
set_option Elab.async false
set_option linter.all false
set_option maxRecDepth 100000
set_option maxHeartbeats 1000000
namespace Sk
open PySem L2 Evl
def negT (t : T) : T := ofL (t.toL.map fun x => (-x.1, x.2))
theorem sumT_neg : ∀ l : List (Int × T), sumT (l.map fun x => (-x.1, x.2)) = -sumT l
  | [] => rfl
  | x :: l => by
    rw [List.map_cons, sumT_cons, sumT_cons, sumT_neg l]
    show -x.1 * 2 ^ x.2.val.toNat + -sumT l = _
    rw [Int.neg_mul]
    omega
theorem negT_val (t : T) : (negT t).val = -t.val := by
  unfold negT
  rw [sumT_ofL, sumT_neg, ← sumT_ofL, ofL_toL]
theorem negT_can {t : T} (h : t.can) : (negT t).can := by
  unfold negT
  refine can_ofL (fun x hx => ?_) ?_
  · obtain ⟨y, hy, rfl⟩ := List.mem_map.mp hx
    obtain ⟨h1, h2, h3⟩ := can_toL h y hy
    exact ⟨by rcases h1 with q | q <;> simp [q], h2, h3⟩
  · rw [List.pairwise_map]
    exact can_gap h
theorem negT_size (t : T) : (negT t).size = t.size := by
  unfold negT
  rw [size_toL, size_toL, toL_ofL, List.map_map]
  rfl
theorem negT_len (t : T) : (negT t).toL.length = t.toL.length := by unfold negT; rw [toL_ofL, List.length_map]
theorem negT_mem {t : T} {x : Int × T} (h : x ∈ (negT t).toL) : ∃ y ∈ t.toL, x.2 = y.2 := by
  unfold negT at h
  rw [toL_ofL] at h
  obtain ⟨y, hy, rfl⟩ := List.mem_map.mp h
  exact ⟨y, hy, rfl⟩
theorem negT_ht (t : T) : (negT t).height ≤ t.height := height_le_of fun x hx => by
  obtain ⟨y, hy, e⟩ := negT_mem hx
  have := (mem_size hy).2
  rw [e]
  omega
theorem PlOk.neg {t : T} (h : PlOk t) : PlOk (negT t) := ⟨negT_can h.can, Nat.le_trans (negT_ht t) h.ht, fun x hx => by
  obtain ⟨y, hy, e⟩ := negT_mem hx
  rw [e]; exact h.sz y hy, by rw [negT_len]; exact h.ln, fun x hx => by
  obtain ⟨y, hy, e⟩ := negT_mem hx
  rw [e]; exact h.sub y hy⟩
end Sk
set_option Elab.async false
set_option linter.all false
set_option maxRecDepth 100000
set_option maxHeartbeats 1000000
namespace Sk
open PySem L2 Evl
end Sk
set_option Elab.async false
set_option linter.all false
set_option maxRecDepth 100000
set_option maxHeartbeats 1000000
namespace Sk
open PySem L2 Evl
/-- an exponent in a sum -/
structure SmOk (e : T) : Prop where
  can : e.can
  nn : 0 ≤ e.val
  ht : e.height ≤ 42
  sz : e.size < 2000
  ln : e.toL.length ≤ 500
theorem SmOk.ex {e : T} (h : SmOk e) : ExpOk e := ⟨h.can, h.nn, Nat.le_trans h.ht (by omega), by have := h.sz; omega, by have := h.ln; omega⟩
/-- the rows of a sum on the way -/
structure RowS (rw : List (Int × T)) (n : Nat) : Prop where
  ok : ∀ x ∈ rw, SmOk x.2
  asc : rw.Pairwise (fun a b => a.2.val < b.2.val)
  cnt : cntT rw ≤ n
  len : rw.length ≤ n
theorem cntT_app (l l' : List (Int × T)) : cntT (l ++ l') = cntT l + cntT l' := by
  unfold cntT
  rw [List.map_append, List.sum_append]
theorem cntT_mem {l : List (Int × T)} {x : Int × T} (h : x ∈ l) : x.1.natAbs ≤ cntT l := by
  obtain ⟨a, b, rfl⟩ := List.append_of_mem h
  rw [cntT_app, cntT_cons]
  omega
theorem split_at {α : Type} {l : List α} {i : Nat} {a : α} (h : l[i]? = some a) : l = l.take i ++ a :: l.drop (i + 1) := by
  rw [← drop_cons h, List.take_append_drop]
theorem set_split {α : Type} {l : List α} {i : Nat} {a b : α} (h : l[i]? = some a) : l.set i b = l.take i ++ b :: l.drop (i + 1) := by
  have hi := (List.getElem?_eq_some_iff.mp h).1
  conv => lhs; rw [split_at h]
  rw [List.set_append_right _ _ (by rw [List.length_take]; omega), List.length_take, Nat.min_eq_left (by omega), Nat.sub_self]
  rfl
theorem RowS.set {rw : List (Int × T)} {n i : Nat} {c s : Int} {e : T} (h : RowS rw n) (hg : rw[i]? = some (c, e)) (hs : s = 1 ∨ s = -1) : RowS (rw.set i (c + s, e)) (n + 1) ∧ sumT (rw.set i (c + s, e)) = sumT rw + s * 2 ^ e.val.toNat := by
  have h1 := split_at hg
  have h2 := set_split (b := (c + s, e)) hg
  have ha := h.asc
  rw [h1] at ha
  refine ⟨⟨fun x hx => ?_, ?_, ?_, by rw [List.length_set]; have := h.len; omega⟩, ?_⟩
  · rw [h2] at hx
    rcases List.mem_append.mp hx with q | q
    · exact h.ok x (List.mem_of_mem_take q)
    · rcases List.mem_cons.mp q with q | q
      · rw [q]; exact h.ok (c, e) (List.mem_of_getElem? hg)
      · exact h.ok x (List.mem_of_mem_drop q)
  · rw [h2]
    rw [List.pairwise_append] at ha ⊢
    rw [List.pairwise_cons] at ha ⊢
    exact ⟨ha.1, ⟨fun x hx => ha.2.1.1 x hx, ha.2.1.2⟩, fun a h3 b h4 => by
      rcases List.mem_cons.mp h4 with q | q
      · rw [q]; exact ha.2.2 a h3 (c, e) (List.mem_cons_self ..)
      · exact ha.2.2 a h3 b (List.mem_cons_of_mem _ q)⟩
  · have hc := h.cnt
    have h5 : cntT rw = cntT (rw.take i) + (c.natAbs + cntT (rw.drop (i + 1))) := by conv => lhs; rw [h1, cntT_app, cntT_cons]
    rw [h2, cntT_app, cntT_cons]
    show cntT (rw.take i) + ((c + s).natAbs + cntT (rw.drop (i + 1))) ≤ n + 1
    omega
  · have h5 : sumT rw = sumT (rw.take i) + (c * 2 ^ e.val.toNat + sumT (rw.drop (i + 1))) := by conv => lhs; rw [h1, sumT_app, sumT_cons]
    rw [h2, sumT_app, sumT_cons, h5]
    show sumT (rw.take i) + ((c + s) * 2 ^ e.val.toNat + sumT (rw.drop (i + 1))) = _
    rw [Int.add_mul]
    omega
theorem RowS.ins {rw : List (Int × T)} {n i : Nat} {s : Int} {e : T} (h : RowS rw n) (hs : s = 1 ∨ s = -1) (he : SmOk e) (hlo : ∀ (j : Nat) (x : Int × T), j < i → rw[j]? = some x → x.2.val < e.val) (hhi : ∀ (j : Nat) (x : Int × T), i ≤ j → rw[j]? = some x → e.val < x.2.val) (hi : i ≤ rw.length) : RowS (rw.take i ++ [(s, e)] ++ rw.drop i) (n + 1) ∧ sumT (rw.take i ++ [(s, e)] ++ rw.drop i) = sumT rw + s * 2 ^ e.val.toNat := by
  have h1 : rw = rw.take i ++ rw.drop i := (List.take_append_drop i rw).symm
  have ha := h.asc
  rw [h1, List.pairwise_append] at ha
  have lo : ∀ x ∈ rw.take i, x.2.val < e.val := fun x hx => by
    obtain ⟨j, hj⟩ := List.getElem?_of_mem hx
    have hlt := (List.getElem?_eq_some_iff.mp hj).1
    rw [List.length_take] at hlt
    rw [List.getElem?_take_of_lt (by omega)] at hj
    exact hlo j x (by omega) hj
  have hi2 : ∀ x ∈ rw.drop i, e.val < x.2.val := fun x hx => by
    obtain ⟨j, hj⟩ := List.getElem?_of_mem hx
    rw [List.getElem?_drop] at hj
    exact hhi _ x (Nat.le_add_right _ _) hj
  refine ⟨⟨fun x hx => ?_, ?_, ?_, ?_⟩, ?_⟩
  · rw [List.append_assoc] at hx
    rcases List.mem_append.mp hx with q | q
    · exact h.ok x (List.mem_of_mem_take q)
    · rcases List.mem_cons.mp q with q | q
      · rw [q]; exact he
      · exact h.ok x (List.mem_of_mem_drop q)
  · rw [List.append_assoc, List.pairwise_append]
    refine ⟨ha.1, List.pairwise_cons.mpr ⟨fun x hx => hi2 x hx, ha.2.1⟩, fun a h3 b h4 => ?_⟩
    rcases List.mem_cons.mp h4 with q | q
    · rw [q]; exact lo a h3
    · exact ha.2.2 a h3 b q
  · have hc := h.cnt
    rw [h1, cntT_app] at hc
    rw [cntT_app, cntT_app, cntT_cons]
    show cntT (rw.take i) + (s.natAbs + cntT []) + cntT (rw.drop i) ≤ n + 1
    have : cntT [] = 0 := rfl
    omega
  · have := h.len
    rw [List.length_append, List.length_append, List.length_take, List.length_drop, List.length_singleton]
    omega
  · have h5 : sumT rw = sumT (rw.take i) + sumT (rw.drop i) := by conv => lhs; rw [h1, sumT_app]
    rw [sumT_app, sumT_app, sumT_cons, sumT_nil, h5]
    show sumT (rw.take i) + (s * 2 ^ e.val.toNat + 0) + sumT (rw.drop i) = _
    omega
theorem RowS.row {rw : List (Int × T)} {n : Nat} (h : RowS rw n) (hn : n ≤ 500) : RowOk rw rw.length ∧ cntT rw ≤ 50000 :=
  ⟨⟨fun x hx => (h.ok x hx).ex, h.asc.imp fun k => Int.le_of_lt k, fun i x hi hx => absurd (List.getElem?_eq_some_iff.mp hx).1 (by omega), by rw [List.drop_length]; exact List.Pairwise.nil, fun x hx => by have := cntT_mem hx; have := h.cnt; omega, by have := h.len; omega, Nat.le_refl _⟩, by have := h.cnt; omega⟩
end Sk
set_option Elab.async false
set_option linter.all false
set_option maxRecDepth 100000
set_option maxHeartbeats 1000000
namespace Sk
open PySem PySem.Spec PyProof.Rows L2 Evl
end Sk
set_option Elab.async false
set_option linter.all false
set_option maxRecDepth 100000
set_option maxHeartbeats 1000000
namespace Sk
open PySem L2 Evl
theorem RowS.up {rw : List (Int × T)} {n : Nat} (h : RowS rw n) : RowS rw (n + 1) := ⟨h.ok, h.asc, Nat.le_succ_of_le h.cnt, Nat.le_succ_of_le h.len⟩
end Sk
set_option Elab.async false
set_option linter.all false
set_option maxRecDepth 100000
set_option maxHeartbeats 1000000
namespace Sk
open PySem L2 Evl
end Sk
set_option Elab.async false
set_option linter.all false
set_option maxRecDepth 100000
set_option maxHeartbeats 1000000
namespace Sk
open PySem L2 Evl
end Sk
set_option Elab.async false
set_option linter.all false
set_option maxRecDepth 100000
set_option maxHeartbeats 1000000
namespace Sk
def SS (p : Nat) : Int := ((toT (p : Int)).size : Int)
def FF (n : Int) (p : Nat) : Int := ((naf n p).map fun x => SS x.2).sum
theorem FF_zero (p : Nat) : FF 0 p = 0 := by unfold FF; rw [naf_zero]; rfl
theorem FF_even {n : Int} (h : n % 2 = 0) (p : Nat) : FF n p = FF (n / 2) (p + 1) := by unfold FF; rw [naf_even h]
theorem FF_odd {n : Int} (h : n % 2 = 1) (p : Nat) : FF n p = SS p + FF ((n - (2 - n % 4)) / 2) (p + 1) := by unfold FF; rw [naf_odd h, List.map_cons, List.sum_cons]
theorem size_FF (n : Int) : ((toT n).size : Int) = 1 + FF n 0 := by
  rw [size_toT, List.map_map]
  have h : ∀ l : List (Int × Nat), (((l.map ((fun p : Nat => (toT (p : Int)).size) ∘ fun x => x.2)).sum : Nat) : Int) = (l.map fun x => SS x.2).sum := by
    intro l
    induction l with
    | nil => rfl
    | cons x l ih => rw [List.map_cons, List.map_cons, List.sum_cons, List.sum_cons, ← ih]; rfl
  have := h (naf n 0)
  unfold FF
  omega
theorem SS_pos (p : Nat) : 1 ≤ SS p := by
  have h := size_FF (p : Int)
  have h0 : ∀ l : List (Int × Nat), 0 ≤ (l.map fun x => SS x.2).sum := by
    intro l
    induction l with
    | nil => exact Int.le_refl _
    | cons x l ih => rw [List.map_cons, List.sum_cons]; have : 0 ≤ SS x.2 := Int.natCast_nonneg _; omega
  have := h0 (naf (p : Int) 0)
  unfold FF at h
  show 1 ≤ ((toT (p : Int)).size : Int)
  omega
/-- one more: how much the places' sizes may grow -/
def BE : Nat → Nat → Int
  | 0, p => SS p
  | t + 1, p => max (SS p) (SS p + max (-SS (p + 1)) (-SS (p + 1) + BE t (p + 2)))
def BO : Nat → Nat → Int
  | 0, _ => 0
  | t + 1, p => max (-SS p) (-SS p + BE t (p + 1))
theorem grow : ∀ (t : Nat), (∀ (p : Nat) (n : Int), (naf n p).length ≤ t → n % 2 = 1 → FF (n + 1) p ≤ FF n p + BO t p) ∧ (∀ (p : Nat) (n : Int), (naf n p).length ≤ t → n % 2 = 0 → FF (n + 1) p ≤ FF n p + BE t p) := by
  intro t
  induction t with
  | zero =>
    refine ⟨fun p n hl h => ?_, fun p n hl h => ?_⟩
    · rw [naf_odd h] at hl; cases hl
    · have h4 : n % 4 = 0 ∨ n % 4 = 2 := by omega
      rcases h4 with q | q
      · rw [FF_odd (n := n + 1) (by omega), FF_even h, show (n + 1 - (2 - (n + 1) % 4)) / 2 = n / 2 by omega]
        show _ ≤ _ + SS p
        omega
      · rw [naf_even h, naf_odd (by omega)] at hl; cases hl
  | succ t ih =>
    have odd : ∀ (p : Nat) (n : Int), (naf n p).length ≤ t + 1 → n % 2 = 1 → FF (n + 1) p ≤ FF n p + BO (t + 1) p := by
      intro p n hl h
      rw [naf_odd h, List.length_cons] at hl
      have h4 : n % 4 = 1 ∨ n % 4 = 3 := by omega
      rw [FF_odd h, FF_even (n := n + 1) (by omega)]
      show _ ≤ _ + max (-SS p) (-SS p + BE t (p + 1))
      rcases h4 with q | q
      · have e1 : (n - (2 - n % 4)) / 2 = (n - 1) / 2 := by omega
        have e2 : (n + 1) / 2 = (n - 1) / 2 + 1 := by omega
        rw [e1] at hl ⊢
        have := ih.2 (p + 1) ((n - 1) / 2) (by omega) (by omega)
        rw [e2]
        omega
      · rw [show (n - (2 - n % 4)) / 2 = (n + 1) / 2 by omega]
        omega
    refine ⟨odd, fun p n hl h => ?_⟩
    show _ ≤ _ + max (SS p) (SS p + max (-SS (p + 1)) (-SS (p + 1) + BE t (p + 2)))
    have h4 : n % 4 = 0 ∨ n % 4 = 2 := by omega
    rw [FF_odd (n := n + 1) (by omega), FF_even h]
    rcases h4 with q | q
    · rw [show (n + 1 - (2 - (n + 1) % 4)) / 2 = n / 2 by omega]
      omega
    · rw [naf_even h] at hl
      have := odd (p + 1) (n / 2) hl (by omega)
      rw [show (n + 1 - (2 - (n + 1) % 4)) / 2 = n / 2 + 1 by omega]
      have e : BO (t + 1) (p + 1) = max (-SS (p + 1)) (-SS (p + 1) + BE t (p + 2)) := rfl
      rw [e] at this
      omega
theorem SS_tb (p : Nat) (h : p < 14) : SS p = (tb.getD p 0 : Nat) := by rw [tb_eq p h]; rfl
theorem SS_succ {e : Nat} (h : wt (e : Int) ≤ 4) : SS (e + 1) ≤ SS e + 4 := by
  have h0 : SS 0 = 1 := SS_tb 0 (by decide)
  have h1 : SS 1 = 2 := SS_tb 1 (by decide)
  have h2 : SS 2 = 3 := SS_tb 2 (by decide)
  have h3 : SS 3 = 5 := SS_tb 3 (by decide)
  have h4 : SS 4 = 4 := SS_tb 4 (by decide)
  have h5 : SS 5 = 5 := SS_tb 5 (by decide)
  have h6 : SS 6 = 8 := SS_tb 6 (by decide)
  have h7 : SS 7 = 7 := SS_tb 7 (by decide)
  have h8 : SS 8 = 6 := SS_tb 8 (by decide)
  have b0 : BE 0 8 = 6 := by show SS 8 = 6; exact h8
  have b0' : BE 0 7 = 7 := by show SS 7 = 7; exact h7
  have b1 : BE 1 6 = 8 := by show max (SS 6) (SS 6 + max (-SS 7) (-SS 7 + BE 0 8)) = 8; rw [h6, h7, b0] <;> decide
  have b2 : BE 2 4 = 7 := by show max (SS 4) (SS 4 + max (-SS 5) (-SS 5 + BE 1 6)) = 7; rw [h4, h5, b1] <;> decide
  have b3 : BE 3 2 = 5 := by show max (SS 2) (SS 2 + max (-SS 3) (-SS 3 + BE 2 4)) = 5; rw [h2, h3, b2] <;> decide
  have b4 : BE 4 0 = 4 := by show max (SS 0) (SS 0 + max (-SS 1) (-SS 1 + BE 3 2)) = 4; rw [h0, h1, b3] <;> decide
  have c1 : BE 1 5 = 5 := by show max (SS 5) (SS 5 + max (-SS 6) (-SS 6 + BE 0 7)) = 5; rw [h5, h6, b0'] <;> decide
  have c2 : BE 2 3 = 6 := by show max (SS 3) (SS 3 + max (-SS 4) (-SS 4 + BE 1 5)) = 6; rw [h3, h4, c1] <;> decide
  have c3 : BE 3 1 = 5 := by show max (SS 1) (SS 1 + max (-SS 2) (-SS 2 + BE 2 3)) = 5; rw [h1, h2, c2] <;> decide
  have o4 : BO 4 0 = 4 := by show max (-SS 0) (-SS 0 + BE 3 1) = 4; rw [h0, c3] <;> decide
  have hl : (naf (e : Int) 0).length ≤ 4 := h
  have hs : SS (e + 1) = 1 + FF ((e : Int) + 1) 0 := by have := size_FF ((e : Int) + 1); unfold SS; rw [show (((e + 1 : Nat)) : Int) = (e : Int) + 1 by omega]; exact this
  have he : SS e = 1 + FF (e : Int) 0 := size_FF _
  rcases Int.emod_two_eq (e : Int) with q | q
  · have := (grow 4).2 0 (e : Int) hl q
    omega
  · have := (grow 4).1 0 (e : Int) hl q
    omega
end Sk
set_option Elab.async false
set_option linter.all false
set_option maxRecDepth 100000
set_option maxHeartbeats 1000000
namespace Sk
def FW (w : Nat → Int) (n : Int) (p : Nat) : Int := ((naf n p).map fun x => w x.2).sum
def mw (w : Nat → Int) (q : Nat) : Int := max (w q) (w (q + 1))
section
variable {w : Nat → Int}
theorem FW_zero (p : Nat) : FW w 0 p = 0 := by unfold FW; rw [naf_zero]; rfl
theorem FW_even {n : Int} (h : n % 2 = 0) (p : Nat) : FW w n p = FW w (n / 2) (p + 1) := by unfold FW; rw [naf_even h]
theorem FW_odd {n : Int} (h : n % 2 = 1) (p : Nat) : FW w n p = w p + FW w ((n - (2 - n % 4)) / 2) (p + 1) := by unfold FW; rw [naf_odd h, List.map_cons, List.sum_cons]
theorem FW_mono {w' : Nat → Int} (h : ∀ q, w q ≤ w' q) (n : Int) (p : Nat) : FW w n p ≤ FW w' n p := by
  unfold FW
  induction naf n p with
  | nil => exact Int.le_refl _
  | cons x l ih => rw [List.map_cons, List.sum_cons, List.map_cons, List.sum_cons]; have := h x.2; omega
theorem le_mw (q : Nat) : w q ≤ mw w q ∧ w (q + 1) ≤ mw w q := by unfold mw; omega
theorem FW_pm {s : Int} (h : s = 1 ∨ s = -1) (p : Nat) : FW w s p = w p := by
  rcases h with rfl | rfl
  · rw [FW_odd (by decide), show ((1 : Int) - (2 - 1 % 4)) / 2 = 0 by decide, FW_zero, Int.add_zero]
  · rw [FW_odd (by decide), show ((-1 : Int) - (2 - (-1) % 4)) / 2 = 0 by decide, FW_zero, Int.add_zero]
/-- an odd number's sign, and the rest, which is even -/
theorem odd_cut {n : Int} (h : n % 2 = 1) : ∃ s m : Int, (s = 1 ∨ s = -1) ∧ n = s + 4 * m ∧ (n - (2 - n % 4)) / 2 = 2 * m ∧ m.natAbs + m.natAbs ≤ n.natAbs ∧ m.natAbs < n.natAbs := by
  rcases (show n % 4 = 1 ∨ n % 4 = 3 by omega) with q | q
  · exact ⟨1, (n - 1) / 4, .inl rfl, by omega, by omega, by omega, by omega⟩
  · exact ⟨-1, (n + 1) / 4, .inr rfl, by omega, by omega, by omega, by omega⟩
theorem FW_cut {s m : Int} (h : s = 1 ∨ s = -1) (p : Nat) : FW w (s + 4 * m) p = w p + FW w (2 * m) (p + 1) := by
  rw [FW_odd (by omega)]
  congr 2
  rcases h with rfl | rfl <;> omega
theorem addW (hw : ∀ q, 0 ≤ w q) : ∀ (k : Nat) (a b : Int), a.natAbs + b.natAbs ≤ k → ∀ p : Nat, FW w (a + b) p ≤ FW (mw w) a p + FW (mw w) b p ∧
    ∀ c : Int, (c = 1 ∨ c = -1) → ¬ (a % 2 = 1 ∧ b % 2 = 1) → FW w (a + b + c) p ≤ FW (mw w) a p + FW (mw w) b p + w p ∧ ((a + b + c) % 2 = 0 → FW w (a + b + c) p ≤ FW (mw w) a p + FW (mw w) b p) := by
  intro k
  induction k with
  | zero =>
    intro a b h p
    have ha : a = 0 := by omega
    have hb : b = 0 := by omega
    subst ha hb
    rw [FW_zero]
    refine ⟨by rw [show (0 : Int) + 0 = 0 from rfl, FW_zero]; decide, fun c hc _ => ⟨?_, fun h => by omega⟩⟩
    rw [show (0 : Int) + 0 + c = c by omega, FW_pm hc]
    have := hw p
    omega
  | succ k ih =>
    -- one odd, one even
    have one : ∀ a b : Int, a.natAbs + b.natAbs ≤ k + 1 → a % 2 = 1 → b % 2 = 0 → ∀ p, FW w (a + b) p ≤ FW (mw w) a p + FW (mw w) b p ∧ ∀ c : Int, (c = 1 ∨ c = -1) → FW w (a + b + c) p ≤ FW (mw w) a p + FW (mw w) b p := by
      intro a b h ha hb p
      obtain ⟨s, m, hs, hm, _, h1, h2⟩ := odd_cut ha
      have hb2 : b = 2 * (b / 2) := by omega
      have hle : (2 * m).natAbs + (b / 2).natAbs ≤ k := by omega
      have i1 := ih (2 * m) (b / 2) hle (p + 1)
      have eA : FW (mw w) a p = mw w p + FW (mw w) (2 * m) (p + 1) := by rw [hm, FW_cut hs]
      have eB : FW (mw w) b p = FW (mw w) (b / 2) (p + 1) := FW_even hb p
      have hmw := le_mw (w := w) p
      rw [eA, eB]
      refine ⟨?_, fun c hc => ?_⟩
      · obtain ⟨d, r, hd, hr, er, _, _⟩ := odd_cut (n := a + b) (by omega)
        rw [FW_odd (by omega), er]
        by_cases hds : d = s
        · have : 2 * r = 2 * m + b / 2 := by omega
          rw [this]
          have := i1.1
          omega
        · have e : 2 * r = 2 * m + b / 2 + s := by omega
          rw [e]
          have := (i1.2 s hs (by omega)).2 (by omega)
          omega
      · have e : (a + b + c) / 2 = 2 * m + b / 2 + (s + c) / 2 := by omega
        rw [FW_even (by omega), e]
        have hc2 : (s + c) / 2 = 0 ∨ ((s + c) / 2 = 1 ∨ (s + c) / 2 = -1) := by omega
        have hn := hw (p + 1)
        have hn' := hw p
        rcases hc2 with q | q
        · rw [q, Int.add_zero]
          have := i1.1
          omega
        · have := (i1.2 _ q (by omega)).1
          omega
    intro a b h p
    rcases (show a % 2 = 0 ∨ a % 2 = 1 by omega) with ha | ha <;> rcases (show b % 2 = 0 ∨ b % 2 = 1 by omega) with hb | hb
    · -- both even
      by_cases hz : a = 0 ∧ b = 0
      · obtain ⟨rfl, rfl⟩ := hz
        rw [FW_zero]
        refine ⟨by rw [show (0 : Int) + 0 = 0 from rfl, FW_zero]; decide, fun c hc _ => ⟨?_, fun h => by omega⟩⟩
        rw [show (0 : Int) + 0 + c = c by omega, FW_pm hc]
        omega
      have hle : (a / 2).natAbs + (b / 2).natAbs ≤ k := by omega
      have i1 := ih (a / 2) (b / 2) hle (p + 1)
      have eA : FW (mw w) a p = FW (mw w) (a / 2) (p + 1) := FW_even ha p
      have eB : FW (mw w) b p = FW (mw w) (b / 2) (p + 1) := FW_even hb p
      rw [eA, eB]
      refine ⟨?_, fun c hc _ => ⟨?_, fun h => by omega⟩⟩
      · rw [FW_even (by omega), show (a + b) / 2 = a / 2 + b / 2 by omega]
        exact i1.1
      · obtain ⟨d, r, hd, hr, er, _, _⟩ := odd_cut (n := a + b + c) (by omega)
        rw [FW_odd (by omega), er]
        by_cases hds : d = c
        · have e : 2 * r = a / 2 + b / 2 := by omega
          rw [e]
          have := i1.1
          omega
        · have e : 2 * r = a / 2 + b / 2 + c := by omega
          rw [e]
          have := (i1.2 c hc (by omega)).2 (by omega)
          omega
    · have o := one b a (by omega) hb ha p
      have hn := hw p
      refine ⟨by rw [Int.add_comm a b]; have := o.1; omega, fun c hc _ => ?_⟩
      have := o.2 c hc
      rw [Int.add_comm a b]
      exact ⟨by omega, fun _ => by omega⟩
    · have o := one a b h ha hb p
      have hn := hw p
      refine ⟨o.1, fun c hc _ => ?_⟩
      have := o.2 c hc
      exact ⟨by omega, fun _ => by omega⟩
    · -- both odd
      refine ⟨?_, fun c hc hno => absurd ⟨ha, hb⟩ hno⟩
      obtain ⟨s, m, hs, hm, _, h1, h2⟩ := odd_cut ha
      obtain ⟨t, r, ht, hr, _, h3, h4⟩ := odd_cut hb
      have eA : FW (mw w) a p = mw w p + FW (mw w) (2 * m) (p + 1) := by rw [hm, FW_cut hs]
      have eB : FW (mw w) b p = mw w p + FW (mw w) (2 * r) (p + 1) := by rw [hr, FW_cut ht]
      have i1 := ih (2 * m) (2 * r) (by omega) (p + 1)
      have hmw := le_mw (w := w) p
      have hn := hw (p + 1)
      have hn' := hw p
      rw [eA, eB, FW_even (by omega), show (a + b) / 2 = 2 * m + 2 * r + (s + t) / 2 by omega]
      have hc2 : (s + t) / 2 = 0 ∨ ((s + t) / 2 = 1 ∨ (s + t) / 2 = -1) := by omega
      rcases hc2 with q | q
      · rw [q, Int.add_zero]
        have := i1.1
        omega
      · have := (i1.2 _ q (by omega)).1
        omega
/-- the sum's places are those of the two, or one above -/
theorem add_place (a b : Int) (P : Nat → Prop) (ha : ∀ x ∈ naf a 0, P x.2 ∧ P (x.2 + 1)) (hb : ∀ x ∈ naf b 0, P x.2 ∧ P (x.2 + 1)) : ∀ x ∈ naf (a + b) 0, P x.2 := by
  intro x hx
  have hz : ∀ l : List (Int × Nat), (∀ x ∈ l, P x.2 ∧ P (x.2 + 1)) → (l.map fun x => mw (fun q => @ite Int (P q) (Classical.propDecidable _) 0 1) x.2).sum = 0 := by
    intro l
    induction l with
    | nil => intro _; rfl
    | cons y l ih =>
      intro h
      rw [List.map_cons, List.sum_cons, ih fun z hz => h z (List.mem_cons_of_mem _ hz)]
      obtain ⟨h1, h2⟩ := h y List.mem_cons_self
      show max (@ite Int (P y.2) (Classical.propDecidable _) 0 1) (@ite Int (P (y.2 + 1)) (Classical.propDecidable _) 0 1) + 0 = 0
      rw [if_pos h1, if_pos h2]
      rfl
  have h0 := (addW (w := fun q => @ite Int (P q) (Classical.propDecidable _) 0 1) (fun q => by split <;> decide) _ a b (Nat.le_refl _) 0).1
  unfold FW at h0
  rw [hz _ ha, hz _ hb] at h0
  have hpos : ∀ l : List (Int × Nat), x ∈ l → ¬ P x.2 → 1 ≤ (l.map fun x => @ite Int (P x.2) (Classical.propDecidable _) 0 1).sum := by
    intro l
    induction l with
    | nil => intro h; cases h
    | cons y l ih =>
      intro h hn
      have hnn : 0 ≤ (l.map fun x => @ite Int (P x.2) (Classical.propDecidable _) 0 1).sum := by
        clear ih h
        induction l with
        | nil => exact Int.le_refl _
        | cons z l ih => rw [List.map_cons, List.sum_cons]; split <;> omega
      rw [List.map_cons, List.sum_cons]
      rcases List.mem_cons.mp h with rfl | h
      · rw [if_neg hn]; omega
      · have := ih h hn
        split <;> omega
  refine Classical.byContradiction fun hn => ?_
  have h5 := hpos _ hx hn
  have h6 : ((naf (a + b) 0).map fun x => (fun q => @ite Int (P q) (Classical.propDecidable _) 0 1) x.2).sum = ((naf (a + b) 0).map fun x => @ite Int (P x.2) (Classical.propDecidable _) 0 1).sum := rfl
  rw [h6] at h0
  omega
end
theorem FF_FW (n : Int) (p : Nat) : FF n p = FW SS n p := rfl
theorem SS_nn (q : Nat) : 0 ≤ SS q := Int.natCast_nonneg _
theorem FW_lin (c : Int) (w : Nat → Int) (n : Int) (p : Nat) : FW (fun q => c * w q) n p = c * FW w n p := by
  unfold FW
  induction naf n p with
  | nil => exact (Int.mul_zero c).symm
  | cons x l ih => rw [List.map_cons, List.sum_cons, List.map_cons, List.sum_cons, Int.mul_add, ih]
/-- a number and the next one -/
theorem SS_dbl : ∀ (k q : Nat), q ≤ k → SS (q + 1) ≤ 2 * SS q
  | 0, q, h => by
    have : q = 0 := by omega
    subst this
    rw [SS_tb 0 (by decide), SS_tb 1 (by decide)]; decide
  | k + 1, q, h => by
    have h1 : SS (q + 1) = 1 + FF ((q : Int) + 1) 0 := by rw [← size_FF]; show ((toT ((q + 1 : Nat) : Int)).size : Int) = _; rw [Int.natCast_add]; rfl
    have h2 : SS q = 1 + FF (q : Int) 0 := size_FF (q : Int)
    have h3 := ((addW (w := SS) SS_nn _ (q : Int) 0 (Nat.le_refl _) 0).2 1 (.inl rfl) (by omega)).1
    rw [Int.add_zero, FW_zero] at h3
    have h4 : FW (mw SS) (q : Int) 0 ≤ 2 * FF (q : Int) 0 := by
      rw [FF_FW, ← FW_lin]
      unfold FW
      have : ∀ l : List (Int × Nat), (∀ x ∈ l, x.2 < q) → (l.map fun x => mw SS x.2).sum ≤ (l.map fun x => 2 * SS x.2).sum := by
        intro l
        induction l with
        | nil => intro _; exact Int.le_refl _
        | cons x l ih =>
          intro hl
          rw [List.map_cons, List.sum_cons, List.map_cons, List.sum_cons]
          have i1 := ih fun y hy => hl y (List.mem_cons_of_mem _ hy)
          have i2 := SS_dbl k x.2 (by have := hl x List.mem_cons_self; omega)
          have i3 := SS_nn x.2
          have i4 : mw SS x.2 ≤ 2 * SS x.2 := by unfold mw; omega
          omega
      exact this _ fun x hx => by have := naf_lt hx; simpa using this
    have h5 : SS 0 = 1 := by rw [SS_tb 0 (by decide)]; decide
    rw [h5] at h3
    rw [h1, FF_FW]
    omega
theorem mw_SS (q : Nat) : mw SS q ≤ 2 * SS q := by
  have := SS_dbl q q (Nat.le_refl _)
  have := SS_nn q
  unfold mw
  omega
theorem FF_sum (a b : Int) (p : Nat) : FF (a + b) p ≤ 2 * (FF a p + FF b p) := by
  have h1 := (addW (w := SS) SS_nn _ a b (Nat.le_refl _) p).1
  have h2 := FW_mono (w := mw SS) (w' := fun q => 2 * SS q) mw_SS a p
  have h3 := FW_mono (w := mw SS) (w' := fun q => 2 * SS q) mw_SS b p
  rw [FW_lin] at h2 h3
  rw [FF_FW, FF_FW, FF_FW]
  omega
theorem size_sum (a b : Int) : (toT (a + b)).size + 3 ≤ 2 * ((toT a).size + (toT b).size) := by
  have h1 := FF_sum a b 0
  have h2 := size_FF a
  have h3 := size_FF b
  have h4 := size_FF (a + b)
  omega
end Sk
set_option Elab.async false
set_option linter.all false
set_option maxRecDepth 100000
set_option maxHeartbeats 1000000
namespace Sk
theorem FF_pm {s : Int} (h : s = 1 ∨ s = -1) (p : Nat) : FF s p = SS p := by
  rcases h with rfl | rfl
  · rw [FF_odd (by decide), show ((1 : Int) - (2 - 1 % 4)) / 2 = 0 by decide, FF_zero, Int.add_zero]
  · rw [FF_odd (by decide), show ((-1 : Int) - (2 - -1 % 4)) / 2 = 0 by decide, FF_zero, Int.add_zero]
theorem FF_shift (m : Int) (k p : Nat) : FF (2 ^ k * m) p = FF m (p + k) := by unfold FF; rw [naf_shift]
theorem FF_dbl (m : Int) (p : Nat) : FF (2 * m) p = FF m (p + 1) := by rw [FF_even (by omega), show 2 * m / 2 = m by omega]
theorem FF_low {s : Int} (h : s = 1 ∨ s = -1) (k : Int) (p : Nat) : FF (s + 4 * k) p = SS p + FF k (p + 2) := by
  have e : FF (2 * k) (p + 1) = FF k (p + 2) := FF_dbl k (p + 1)
  rcases h with rfl | rfl
  · rw [FF_odd (by omega), show (1 + 4 * k - (2 - (1 + 4 * k) % 4)) / 2 = 2 * k by omega, e]
  · rw [FF_odd (by omega), show (-1 + 4 * k - (2 - (-1 + 4 * k) % 4)) / 2 = 2 * k by omega, e]
theorem FF_three {s : Int} (h : s = 1 ∨ s = -1) (p : Nat) : FF (3 * s) p = SS p + SS (p + 2) := by
  have := FF_low (s := -s) (by omega) s p
  rw [show -s + 4 * s = 3 * s by omega, FF_pm h] at this
  exact this
theorem FF_spow {s : Int} (h : s = 1 ∨ s = -1) (k p : Nat) : FF (s * 2 ^ k) p = SS (p + k) := by rw [Int.mul_comm, FF_shift, FF_pm h]
theorem FF_two {s s' : Int} (h : s = 1 ∨ s = -1) (h' : s' = 1 ∨ s' = -1) (d p : Nat) (hw : wt ((p + d : Nat) : Int) ≤ 4) : FF (s + s' * 2 ^ d) p ≤ SS p + SS (p + d) + 4 := by
  have g := SS_succ hw
  have p0 := SS_pos p
  have p1 := SS_pos (p + d)
  match d with
  | 0 =>
    rw [Int.pow_zero, Int.mul_one]
    by_cases e : s' = s
    · rw [e, show s + s = 2 * s by omega, FF_dbl, FF_pm h]
      rw [Nat.add_zero] at g
      omega
    · rw [show s + s' = 0 by omega, FF_zero]
      omega
  | 1 =>
    rw [show (2 : Int) ^ 1 = 2 by decide]
    by_cases e : s' = s
    · rw [e, show s + s * 2 = 3 * s by omega, FF_three h]
      rw [show p + 2 = p + 1 + 1 by omega]
      omega
    · rw [show s + s' * 2 = s' by omega, FF_pm h']
      omega
  | d + 2 =>
    have e : s + s' * 2 ^ (d + 2) = s + 4 * (s' * 2 ^ d) := by
      rw [Int.pow_succ, Int.pow_succ, Int.mul_assoc (2 ^ d) 2 2, show (2 : Int) * 2 = 4 by decide, ← Int.mul_assoc, Int.mul_comm _ 4]
    rw [e, FF_low h, FF_spow h', show p + 2 + d = p + (d + 2) by omega]
    omega
theorem FF_tri {s t u : Int} (hs : s = 1 ∨ s = -1) (ht : t = 1 ∨ t = -1) (hu : u = 1 ∨ u = -1) (c d e : Nat) (wc : wt (c : Int) ≤ 3) (wb : wt ((c + d : Nat) : Int) ≤ 3) (wa : wt ((c + d + e : Nat) : Int) ≤ 3) :
    FF (s + t * 2 ^ d + u * 2 ^ (d + e)) c ≤ SS c + SS (c + d) + SS (c + d + e) + 8 := by
  have gc := SS_succ (e := c) (by omega)
  have gb := SS_succ (e := c + d) (by omega)
  have ga := SS_succ (e := c + d + e) (by omega)
  have pc := SS_pos c
  have pb := SS_pos (c + d)
  have pa := SS_pos (c + d + e)
  match d with
  | 0 =>
    rw [Int.pow_zero, Int.mul_one, Nat.zero_add]
    simp only [Nat.add_zero] at *
    by_cases q : t = s
    · rw [q, show s + s = 2 * s by omega]
      cases e with
      | zero =>
        rw [Int.pow_zero, Int.mul_one]
        simp only [Nat.add_zero] at *
        by_cases q2 : u = s
        · rw [q2, show 2 * s + s = 3 * s by omega, FF_three hs]
          have := SS_succ (e := c + 1) (by have := wt_succ (c : Int); rw [show ((c + 1 : Nat) : Int) = (c : Int) + 1 by omega]; omega)
          rw [show c + 1 + 1 = c + 2 by omega] at this
          omega
        · rw [show 2 * s + u = s by omega, FF_pm hs]
          omega
      | succ e =>
        have e1 : 2 * s + u * 2 ^ (e + 1) = 2 * (s + u * 2 ^ e) := by rw [Int.pow_succ, ← Int.mul_assoc]; omega
        rw [e1, FF_dbl]
        have := FF_two hs hu e (c + 1) (by rw [show c + 1 + e = c + (e + 1) by omega]; omega)
        rw [show c + 1 + e = c + (e + 1) by omega] at this
        omega
    · rw [show s + t = 0 by omega, Int.zero_add, FF_spow hu]
      omega
  | 1 =>
    rw [show (2 : Int) ^ 1 = 2 by decide]
    by_cases q : t = s
    · subst q
      cases e with
      | zero =>
        rw [show (2 : Int) ^ (1 + 0) = 2 by decide]
        simp only [Nat.add_zero] at *
        by_cases q2 : u = t
        · rw [q2, show t + t * 2 + t * 2 = t + 4 * t by omega, FF_low hs, FF_pm hs]
          rw [show c + 2 = c + 1 + 1 by omega]
          omega
        · rw [show t + t * 2 + u * 2 = t by omega, FF_pm hs]
          omega
      | succ e =>
        have e1 : t + t * 2 + u * 2 ^ (1 + (e + 1)) = -t + 4 * (t + u * 2 ^ e) := by
          rw [show 1 + (e + 1) = e + 1 + 1 by omega, Int.pow_succ, Int.pow_succ, Int.mul_assoc (2 ^ e) 2 2, show (2 : Int) * 2 = 4 by decide, ← Int.mul_assoc]
          omega
        rw [e1, FF_low (by omega)]
        have := FF_two hs hu e (c + 2) (by rw [show c + 2 + e = c + 1 + (e + 1) by omega]; omega)
        rw [show c + 2 + e = c + 1 + (e + 1) by omega] at this
        rw [show c + 2 = c + 1 + 1 by omega] at this ⊢
        omega
    · rw [show s + t * 2 = t by omega]
      have := FF_two ht hu (1 + e) c (by rw [show c + (1 + e) = c + 1 + e by omega]; omega)
      rw [show c + (1 + e) = c + 1 + e by omega] at this
      omega
  | d + 2 =>
    have e1 : s + t * 2 ^ (d + 2) + u * 2 ^ (d + 2 + e) = s + 4 * (2 ^ d * (t + u * 2 ^ e)) := by
      rw [show d + 2 + e = e + (d + 2) by omega, Int.pow_add 2 e (d + 2), Int.pow_succ, Int.pow_succ, Int.mul_assoc (2 ^ d) 2 2, show (2 : Int) * 2 = 4 by decide, Int.mul_add]
      have e2 : u * (2 ^ e * (2 ^ d * 4)) = 4 * (2 ^ d * (u * 2 ^ e)) := by
        rw [← Int.mul_assoc u, ← Int.mul_assoc (u * 2 ^ e), Int.mul_comm (u * 2 ^ e) (2 ^ d), Int.mul_comm _ 4]
      have e3 : t * (2 ^ d * 4) = 4 * (2 ^ d * t) := by rw [← Int.mul_assoc, Int.mul_comm t, Int.mul_comm _ 4]
      rw [e2, e3]
      omega
    rw [e1, FF_low hs, FF_shift]
    have := FF_two ht hu e (c + 2 + d) (by rw [show c + 2 + d + e = c + (d + 2) + e by omega]; omega)
    rw [show c + 2 + d = c + (d + 2) by omega] at this ⊢
    omega
theorem pw_split {c a : Nat} (h : c ≤ a) (s : Int) : s * 2 ^ a = 2 ^ c * (s * 2 ^ (a - c)) := by
  have : a = c + (a - c) := by omega
  have e : (2 : Int) ^ a = 2 ^ c * 2 ^ (a - c) := by rw [← Int.pow_add, ← this]
  rw [e, ← Int.mul_assoc, Int.mul_comm s, Int.mul_assoc]
/-- a sum of two, of three powers, in any order -/
theorem FF_sum2 {s t : Int} (hs : s = 1 ∨ s = -1) (ht : t = 1 ∨ t = -1) (a b : Nat) (wa : wt (a : Int) ≤ 3) (wb : wt (b : Int) ≤ 3) : FF (s * 2 ^ a + t * 2 ^ b) 0 ≤ SS a + SS b + 4 := by
  have key : ∀ {s t : Int} (hs : s = 1 ∨ s = -1) (ht : t = 1 ∨ t = -1) (a b : Nat), wt (a : Int) ≤ 3 → wt (b : Int) ≤ 3 → a ≤ b → FF (s * 2 ^ a + t * 2 ^ b) 0 ≤ SS a + SS b + 4 := by
    intro s t hs ht a b wa wb h
    have e : s * 2 ^ a + t * 2 ^ b = 2 ^ a * (s + t * 2 ^ (b - a)) := by rw [pw_split h, Int.mul_add, Int.mul_comm s]
    rw [e, FF_shift, Nat.zero_add]
    have := FF_two hs ht (b - a) a (by rw [show a + (b - a) = b by omega]; omega)
    rw [show a + (b - a) = b by omega] at this
    exact this
  rcases Nat.le_total a b with h | h
  · exact key hs ht a b wa wb h
  · have := key ht hs b a wb wa h
    rw [Int.add_comm]
    omega
theorem FF_sum3 {s t u : Int} (hs : s = 1 ∨ s = -1) (ht : t = 1 ∨ t = -1) (hu : u = 1 ∨ u = -1) (a b c : Nat) (wa : wt (a : Int) ≤ 3) (wb : wt (b : Int) ≤ 3) (wc : wt (c : Int) ≤ 3) : FF (s * 2 ^ a + t * 2 ^ b + u * 2 ^ c) 0 ≤ SS a + SS b + SS c + 8 := by
  have key : ∀ {s t u : Int} (hs : s = 1 ∨ s = -1) (ht : t = 1 ∨ t = -1) (hu : u = 1 ∨ u = -1) (a b c : Nat), wt (a : Int) ≤ 3 → wt (b : Int) ≤ 3 → wt (c : Int) ≤ 3 → a ≤ b → b ≤ c → FF (s * 2 ^ a + t * 2 ^ b + u * 2 ^ c) 0 ≤ SS a + SS b + SS c + 8 := by
    intro s t u hs ht hu a b c wa wb wc h1 h2
    have e : s * 2 ^ a + t * 2 ^ b + u * 2 ^ c = 2 ^ a * (s + t * 2 ^ (b - a) + u * 2 ^ ((b - a) + (c - b))) := by
      rw [pw_split h1, pw_split (Nat.le_trans h1 h2), Int.mul_add, Int.mul_add, Int.mul_comm s, show c - a = b - a + (c - b) by omega]
    rw [e, FF_shift, Nat.zero_add]
    have := FF_tri hs ht hu a (b - a) (c - b) wa (by rw [show a + (b - a) = b by omega]; exact wb) (by rw [show a + (b - a) + (c - b) = c by omega]; exact wc)
    rw [show a + (b - a) + (c - b) = c by omega, show a + (b - a) = b by omega] at this
    exact this
  rcases Nat.le_total a b with h | h <;> rcases Nat.le_total b c with h2 | h2
  · exact key hs ht hu a b c wa wb wc h h2
  · rcases Nat.le_total a c with h3 | h3
    · have := key hs hu ht a c b wa wc wb h3 h2
      rw [show s * 2 ^ a + t * 2 ^ b + u * 2 ^ c = s * 2 ^ a + u * 2 ^ c + t * 2 ^ b by omega]
      omega
    · have := key hu hs ht c a b wc wa wb h3 h
      rw [show s * 2 ^ a + t * 2 ^ b + u * 2 ^ c = u * 2 ^ c + s * 2 ^ a + t * 2 ^ b by omega]
      omega
  · rcases Nat.le_total a c with h3 | h3
    · have := key ht hs hu b a c wb wa wc h h3
      rw [show s * 2 ^ a + t * 2 ^ b + u * 2 ^ c = t * 2 ^ b + s * 2 ^ a + u * 2 ^ c by omega]
      omega
    · have := key ht hu hs b c a wb wc wa h2 h3
      rw [show s * 2 ^ a + t * 2 ^ b + u * 2 ^ c = t * 2 ^ b + u * 2 ^ c + s * 2 ^ a by omega]
      omega
  · have := key hu ht hs c b a wc wb wa h2 h
    rw [show s * 2 ^ a + t * 2 ^ b + u * 2 ^ c = u * 2 ^ c + t * 2 ^ b + s * 2 ^ a by omega]
    omega
end Sk
set_option Elab.async false
set_option linter.all false
set_option maxRecDepth 100000
set_option maxHeartbeats 1000000
namespace Sk
theorem naf_neg : ∀ (k : Nat) (n : Int) (p : Nat), n.natAbs ≤ k → naf (-n) p = (naf n p).map fun x => (-x.1, x.2)
  | 0, n, p, h => by
    have : n = 0 := by omega
    subst this
    rw [show -(0 : Int) = 0 from rfl, naf_zero]; rfl
  | k + 1, n, p, h => by
    by_cases h0 : n = 0
    · subst h0; rw [show -(0 : Int) = 0 from rfl, naf_zero]; rfl
    rcases Int.emod_two_eq n with e | e
    · rw [naf_even (n := -n) (by omega), naf_even e, show -n / 2 = -(n / 2) by omega, naf_neg k _ _ (by omega)]
    · rw [naf_odd (n := -n) (by omega), naf_odd e, List.map_cons]
      congr 1
      · show (_, _) = (_, _)
        congr 1
        omega
      · by_cases hz : (n - (2 - n % 4)) / 2 = 0
        · rw [hz, show (-n - (2 - -n % 4)) / 2 = 0 by omega, naf_zero]; rfl
        · rw [show (-n - (2 - -n % 4)) / 2 = -((n - (2 - n % 4)) / 2) by omega, naf_neg k _ _ (by omega)]
theorem FF_neg (n : Int) (p : Nat) : FF (-n) p = FF n p := by
  unfold FF
  rw [naf_neg _ n p (Nat.le_refl _), List.map_map]
  rfl
theorem wt_negI (n : Int) : wt (-n) = wt n := by
  unfold wt
  rw [naf_neg _ n 0 (Nat.le_refl _), List.length_map]
theorem abs_cases (n : Int) : (n.natAbs : Int) = n ∨ (n.natAbs : Int) = -n := by omega
theorem FF_abs (n : Int) (p : Nat) : FF (n.natAbs : Int) p = FF n p := by
  rcases abs_cases n with h | h
  · rw [h]
  · rw [h, FF_neg]
theorem wt_abs (n : Int) : wt (n.natAbs : Int) = wt n := by
  rcases abs_cases n with h | h
  · rw [h]
  · rw [h, wt_negI]
theorem SS_abs (n : Int) : SS n.natAbs = 1 + FF n 0 := by rw [← FF_abs]; exact size_FF _
def Pm (s : Int) : Prop := s = 1 ∨ s = -1
/-- a sum of up to three powers, the first exponent of P, the others of R -/
def Pows (P R : Int → Prop) (n : Int) : Prop := ∃ s a, Pm s ∧ P a ∧ (n = s * 2 ^ a.natAbs ∨ ∃ t b, Pm t ∧ R b ∧ (n = s * 2 ^ a.natAbs + t * 2 ^ b.natAbs ∨ ∃ u c, Pm u ∧ R c ∧ n = s * 2 ^ a.natAbs + t * 2 ^ b.natAbs + u * 2 ^ c.natAbs))
theorem Pows.wt {P R : Int → Prop} {n : Int} (h : Pows P R n) : wt n ≤ 3 := by
  obtain ⟨s, a, hs, _, h⟩ := h
  have h1 : Sk.wt (s * 2 ^ a.natAbs) ≤ 1 := by
    have := wt_pow a.natAbs 0 s hs
    rw [wt_zero, Int.zero_add] at this
    exact this
  rcases h with rfl | ⟨t, b, ht, _, h⟩
  · omega
  have h2 := wt_pow b.natAbs (s * 2 ^ a.natAbs) t ht
  rcases h with rfl | ⟨u, c, hu, _, rfl⟩
  · omega
  have h3 := wt_pow c.natAbs (s * 2 ^ a.natAbs + t * 2 ^ b.natAbs) u hu
  omega
theorem natAbs_spow {s : Int} (h : Pm s) (x : Nat) : (s * 2 ^ x).natAbs = 2 ^ x := by
  rw [Int.natAbs_mul, Int.natAbs_pow]
  rcases h with rfl | rfl <;> simp
theorem Pows.abs {P R : Int → Prop} {n : Int} {m : Nat} (h : Pows P R n) (hP : ∀ a, P a → a.natAbs ≤ m) (hR : ∀ a, R a → a.natAbs ≤ m) : n.natAbs ≤ 3 * 2 ^ m := by
  obtain ⟨s, a, hs, ha, h⟩ := h
  have h1 := natAbs_spow hs a.natAbs
  have g1 : 2 ^ a.natAbs ≤ 2 ^ m := Nat.pow_le_pow_right (by decide) (hP a ha)
  rcases h with rfl | ⟨t, b, ht, hb, h⟩
  · omega
  have h2 := natAbs_spow ht b.natAbs
  have g2 : 2 ^ b.natAbs ≤ 2 ^ m := Nat.pow_le_pow_right (by decide) (hR b hb)
  rcases h with rfl | ⟨u, c, hu, hc, rfl⟩
  · have := Int.natAbs_add_le (s * 2 ^ a.natAbs) (t * 2 ^ b.natAbs)
    omega
  have h3 := natAbs_spow hu c.natAbs
  have g3 : 2 ^ c.natAbs ≤ 2 ^ m := Nat.pow_le_pow_right (by decide) (hR c hc)
  have := Int.natAbs_add_le (s * 2 ^ a.natAbs) (t * 2 ^ b.natAbs)
  have := Int.natAbs_add_le (s * 2 ^ a.natAbs + t * 2 ^ b.natAbs) (u * 2 ^ c.natAbs)
  omega
/-- sums of exponents of bounded size -/
theorem Pows.size {P R : Int → Prop} {n A B : Int} (h : Pows P R n) (hP : ∀ a, P a → SS a.natAbs ≤ A ∧ Sk.wt a ≤ 3) (hR : ∀ a, R a → SS a.natAbs ≤ B ∧ Sk.wt a ≤ 3) (hB : 0 ≤ B) : SS n.natAbs ≤ A + 2 * B + 9 := by
  rw [SS_abs]
  obtain ⟨s, a, hs, ha, h⟩ := h
  obtain ⟨a1, a2⟩ := hP a ha
  rw [← wt_abs] at a2
  rcases h with rfl | ⟨t, b, ht, hb, h⟩
  · rw [FF_spow hs, Nat.zero_add]; omega
  obtain ⟨b1, b2⟩ := hR b hb
  rw [← wt_abs] at b2
  rcases h with rfl | ⟨u, c, hu, hc, rfl⟩
  · have := FF_sum2 hs ht a.natAbs b.natAbs a2 b2; omega
  obtain ⟨c1, c2⟩ := hR c hc
  rw [← wt_abs] at c2
  have := FF_sum3 hs ht hu a.natAbs b.natAbs c.natAbs a2 b2 c2
  omega
end Sk
set_option Elab.async false
set_option linter.all false
set_option maxRecDepth 100000
set_option maxHeartbeats 2000000
namespace Sk
open PySem L2 Evl
end Sk
set_option Elab.async false
set_option linter.all false
set_option maxRecDepth 100000
set_option maxHeartbeats 1000000
namespace Sk
open PySem L2 Evl
end Sk
set_option Elab.async false
set_option linter.all false
set_option maxRecDepth 100000
set_option maxHeartbeats 1000000
namespace Sk
open PySem L2 Evl
theorem size_sm {p : Nat} (h : p ≤ 2 ^ 13) : (toT (p : Int)).size ≤ 127 := by
  rw [size_toT]
  have h1 := naf_len 13 (p : Int) 0 (by simpa using h)
  have h2 := sum_all ((naf (p : Int) 0).map (·.2)) (fun q : Nat => (toT (q : Int)).size) 9 fun q hq => by
    obtain ⟨x, hx, rfl⟩ := List.mem_map.mp hq
    exact sz14 x.2 (Nat.lt_succ_of_le (naf_le (m := 13) (by simpa using h) hx))
  rw [List.length_map] at h2
  omega
def Big (n : Int) : Prop := n.natAbs ≤ 2 ^ 512
theorem big_cb {n : Int} (h : Big n) : n.natAbs < Cb 7 := lt_Cb7 (k := 513) (Nat.lt_of_le_of_lt h (Nat.pow_lt_pow_right (by decide) (by decide))) (by decide)
theorem big_len {n : Int} (h : Big n) : (toT n).toL.length ≤ 513 := toT_len (k := 512) h
theorem big_mem {n : Int} (h : Big n) {x : Int × T} (hx : x ∈ (toT n).toL) : ∃ q : Nat, q ≤ 512 ∧ x.2 = toT (q : Int) ∧ (x.1 = 1 ∨ x.1 = -1) := by
  rw [toL_toT] at hx
  obtain ⟨y, hy, rfl⟩ := List.mem_map.mp hx
  exact ⟨y.2, naf_le h (List.mem_reverse.mp hy), rfl, naf_sign (List.mem_reverse.mp hy)⟩
theorem big_of {q : Nat} (h : q ≤ 512) : Big (q : Int) := by
  unfold Big
  refine Nat.le_trans ?_ (Nat.le_of_lt (Nat.lt_two_pow_self (n := 512)))
  omega
theorem big_size {n : Int} (h : Big n) : (toT n).size < 70000 := by
  rw [size_toT]
  have h1 := naf_len 512 n 0 h
  have h2 := sum_all ((naf n 0).map (·.2)) (fun q : Nat => (toT (q : Int)).size) 127 fun q hq => by
    obtain ⟨x, hx, rfl⟩ := List.mem_map.mp hq
    exact size_sm (Nat.le_trans (naf_le h hx) (by decide))
  rw [List.length_map] at h2
  omega
theorem big_ok {n : Int} (h : Big n) : PlOk (toT n) :=
  ⟨toT_can n, Nat.le_trans (height_toT 6 n (big_cb h)) (by decide), sz_ex (Nat.lt_trans (big_size h) (by decide)), Nat.le_trans (big_len h) (by decide), fun x hx => by
    obtain ⟨q, hq, e, _⟩ := big_mem h hx
    rw [e]
    have := big_len (big_of hq)
    omega⟩
end Sk
set_option Elab.async false
set_option linter.all false
set_option maxRecDepth 100000
set_option maxHeartbeats 2000000
namespace Sk
open PySem L2 Evl
end Sk
set_option Elab.async false
set_option linter.all false
set_option maxRecDepth 100000
set_option maxHeartbeats 2000000
namespace Sk
open PySem L2 Evl
end Sk
set_option Elab.async false
set_option linter.all false
set_option maxRecDepth 100000
set_option maxHeartbeats 1000000
namespace Sk
open PySem PySem.Spec PyProof.Rows L2
end Sk
set_option Elab.async false
set_option linter.all false
set_option maxRecDepth 100000
set_option maxHeartbeats 1000000
namespace Sk
open PySem PySem.Spec PyProof.Rows L2
end Sk
set_option Elab.async false
set_option linter.all false
set_option maxRecDepth 100000
set_option maxHeartbeats 1000000
namespace Sk
open PySem PySem.Spec PyProof.Rows L2 L2H
end Sk
set_option Elab.async false
set_option linter.all false
set_option maxRecDepth 100000
set_option maxHeartbeats 1000000
namespace Sk
open PySem L2 Evl PySem.Spec PyProof.Rows L2H
section
variable {X : Cx} {C : Addr} {x m : Str} {j : Nat} {p p2 pos pos' : Pos}
theorem pmkN_err (T : ErrC X.prog X.w X.K X.mg X.base x C) (hr : Room 3 X.A) (hg : Gl X x) (hdb : (x == ("__debug__" : Str)) = false := by decide) :
    L2N.PMk X (.Call (.Name x p) [.Constant (.str m) j p2] [] pos) (fun _ H Q => ∀ H', Ex H H' → ∀ d, ErrAt X.K C d H' → Q (.ref C) (some d) H') := by
  obtain ⟨fI, fd, h1, h2, h3, F⟩ := T.i
  intro pins s σ H Q I h
  obtain ⟨nm, q, N, bs, bm, sn, sub, ab, col, dd, k0, k1, k2, k3, k5, hC, hbm⟩ := T.T.cls
  refine wpAny_Call_Name_kw (ld_glob I hg T.m ?_ hdb)
  refine PySem.W.callWith_K (h₀ := X.base) I.ok.mod.kin T.T.kC (thn ((pa_cons (pe_str (x := m)) pa_nil).run pos pins s σ H (fun vs H1 => vs = [.str m] ∧ H1 = H) I ⟨rfl, rfl⟩) fun us ⟨h0, gn, dw, tk, os⟩ ⟨vs, H1, J, rv, ev, eH⟩ => ⟨J.kIn, ?_⟩) rfl rfl
  subst ev eH
  show wpAny _ _ (call (.ref C) us) _ _ _
  obtain ⟨ga, eg⟩ : ∃ ga, h0.objs.size + 1 = ga := ⟨_, rfl⟩
  obtain ⟨g1, e1⟩ : ∃ g1, (h0.push (PySem.W.kdv_tup us)).push (PySem.HandSPX.excO C h0.objs.size) = g1 := ⟨_, rfl⟩
  have kp : ∀ b u, h0.get? b = some u → g1.get? b = some u := fun b u e => by rw [← e1]; exact Heap.get?_push_of_some _ (Heap.get?_push_of_some _ e)
  have sz : h0.objs.size ≤ ga := by rw [← eg]; exact Nat.le_succ _
  have new : g1.get? ga = some (PySem.HandSPX.excO C h0.objs.size) := by
    rw [← e1, ← eg]
    heap_get
  have free : H1 ga = none := J.hok.fresh sz
  have J2 : Inv X pins σ (upd H1 ga (exo ga C none)) ⟨g1, gn, dw, tk, os⟩ := J.laid (t' := tk) (h' := g1) kp sz (exo_ok new)
  have rv2 : Vals [.ref ga, .str m] (Value.ref ga :: us) := .cons rfl rv
  have lus : us.length ≤ sizeLine := by
    rw [← Paired.length rv, sizeLine_eq]
    show 1 ≤ _
    omega
  have hb := h3 ⟨g1, gn, dw, tk, os⟩ (Value.ref ga :: us) J2.kIn (by rw [List.append_nil, ← rv2.length]; rfl)
  rw [List.append_nil] at hb
  have wish : sp_cinit X.K (wordOf x) [.ref ga, .str m] (upd H1 ga (exo ga C none)) (fun v H2 => v = .non ∧ ∃ d, H2 ga = some (exo ga C (some d)) ∧ H2 d = some (exd d [("word", .str (wordOf x))]) ∧ H1 d = none ∧ Q (.ref C) (some d) (upd (del H2 ga) d (.xd [("word", .str (wordOf x))]))) (fun _ _ _ => False) := by
    refine ⟨ga, C, .str m, rfl, T.T, T.hw, upd_same, fun dx hd hne => ?_⟩
    rw [upd_ne hne] at hd
    refine ⟨rfl, dx, upd_same, by rw [upd_ne hne, upd_same], hd, h _ (fun b o hb => ?_) dx ⟨x, T.nm, upd_same⟩⟩
    have hb1 : b ≠ dx := fun z => by rw [z, hd] at hb; cases hb
    have hb2 : b ≠ ga := fun z => by rw [z, free] at hb; cases hb
    rw [upd_ne hb1, del_ne hb2, upd_ne hb2, upd_ne hb1, upd_ne hb2]
    exact hb
  have body := F.run (X.A.under (.builtin "type.__call__" ⟨.ref C :: us, []⟩)) X.stack ⟨g1, gn, dw, tk, os⟩ _ ⟨Value.ref ga :: us, []⟩ (Value.ref ga :: us) _ _ (fun _ _ _ => False) (hr.make C us []) (J2.env0.make C us []) hb rv2 wish
  subst e1 eg
  refine wpAny_call (PySem.HandSPX.call_own PySem.F.excBase_ValueError (fun Y => PySem.HandSPX.refsVE_contains Y bm hbm) (J.kIn _ _ hC) (PySem.W.looks_findIn J.kIn h1) (fun self => PySem.W.bind_fn J.kIn self h2) lus (codeAny_mono body fun r s' hq => ?_))
  cases r with
  | error er => exact False.elim hq
  | ok fl =>
    cases fl with
    | ret u =>
      obtain ⟨v, H2, os2, bare2, un2, hok2, rv', ev, d, ea, ed, hd1, q2⟩ := hq
      subst ev
      obtain ⟨g2, gn2, dw2, tk2, os'⟩ := s'
      obtain ⟨t0, G, J3, kG, ge, hoe, na⟩ := mk_end0 (d2 := dw2) (t2 := tk2) J sz kp un2 hok2 os2 bare2 ea ed hd1
      refine ⟨rv', _, _, _, ⟨G, gn2, dw2, tk2, os'⟩, _, .ref C, some d, rfl, J3, kG, ge, hoe, ⟨rfl, rfl, fun vs hv => ?_⟩, rfl, rfl, na, rfl, bare2, raises_own T.T.exC T.T.tyC, q2⟩
      cases hv
      rfl
    | next => exact False.elim hq
    | brk => exact False.elim hq
    | cont => exact False.elim hq
theorem ps_errN {E : XK} {W : WX} (hc : X.calm = true) (tk : L2N.Takes X W) (hW : W = fun cls d _ H => E cls d H) (T : ErrC X.prog X.w X.K X.mg X.base x C) (hr : Room 3 X.A) (hg : Gl X x) (hdb : (x == ("__debug__" : Str)) = false := by decide) :
    PS X (.Raise (some (.Call (.Name x p) [.Constant (.str m) j p2] [] pos)) none pos') (tRaise X.K E C) := by
  subst hW
  exact L2N.ps_raise hc tk (pmkN_err T hr hg hdb)
end
theorem passLN {X : Cx} : Passes (L2N.CX X.prog X.w) X E0 := fun _ _ _ _ _ _ _ h => by
  obtain ⟨_, _, _, _, _, _, _, _, _, _, _, _, z⟩ := h
  exact z.elim
section
variable {P : Program} {w : World} {K : PySem.W.Frag} {mg : Str → Option Value} {base : Heap} {x qual : Str} {st : Stmt} {f : Addr} {fd : FuncData} {N ps : List Str} {k : Nat} {sp : Sp}
theorem okXN (F : Fun K x qual st f fd) (S : FnScope N ps (defScope st)) (len : ∀ vs H Q E, sp vs H Q E → vs.length = ps.length)
    (hb : ∀ (cdv : Value) (A : Around) (outer : List Env) (s : Shared) (H : Hp) (vs : List V) (Q : VK) (E : XK), Room k (A.deeper (envOfC qual (defScope st) s.heap.objs.size f cdv)) → sp vs H Q E →
      ∃ t, PSs (cxOf (L2N.CX P w) P w K mg base N qual (defScope st) f cdv A outer s H E) (defBody st) t ∧ t { nx := fun _ H' => Q .non H', rt := Q } (start N vs) H) : FnOk P w K mg base (L2N.CX P w) (k + 1) f fd ps sp := by
  obtain ⟨oc, od, kV, doc, pm, an, cdv, ct, osl, rfl, lk, hcd⟩ := F.ex
  exact fn_of lk hcd S len fun A outer s H vs Q E hr q => hb cdv A outer s H vs Q E hr q
end
end Sk
set_option Elab.async false
set_option linter.all false
set_option maxRecDepth 100000
set_option maxHeartbeats 1000000
namespace Sk
open PySem L2 PySem.Spec PyProof.Rows
end Sk
set_option Elab.async false
set_option linter.all false
set_option maxRecDepth 100000
set_option maxHeartbeats 1000000
namespace Sk
open PySem L2 Evl
end Sk
set_option Elab.async false
set_option linter.all false
set_option maxRecDepth 100000
set_option maxHeartbeats 1000000
namespace Sk
open PySem L2 Evl
end Sk
set_option Elab.async false
set_option linter.all false
set_option maxRecDepth 100000
set_option maxHeartbeats 1000000
namespace Sk
open PySem L2 Evl
end Sk
set_option Elab.async false
set_option linter.all false
set_option maxRecDepth 100000
set_option maxHeartbeats 1000000
namespace Sk
open PySem L2 Evl
/-- how great a value's terms are -/
structure VOk (V : Int) (M : Nat) : Prop where
  wt : wt V ≤ 80
  le : ∀ x ∈ naf V 0, x.2 ≤ M
theorem size_104 {n : Nat} (h : n ≤ 2 ^ 104) : (toT (n : Int)).size ≤ 1061 := by
  have hp : ∀ x ∈ naf (n : Int) 0, x.2 ≤ 104 := fun x hx => naf_le (by simpa using h) hx
  have hl := gap_len (naf (n : Int) 0) 0 104 (naf_gap _ _ (Nat.le_refl _) 0) fun x hx => ⟨Nat.zero_le _, hp x hx⟩
  rw [size_toT]
  have := sum_all ((naf (n : Int) 0).map (·.2)) (fun p : Nat => (toT (p : Int)).size) 20 fun p hp' => by
    obtain ⟨x, hx, rfl⟩ := List.mem_map.mp hp'
    have := hp x hx
    exact sz128 x.2 (by omega)
  rw [List.length_map] at this
  omega
theorem big_104 {n : Nat} (h : n ≤ 2 ^ 104) : Big (n : Int) := Nat.le_trans (by simpa using h : (n : Int).natAbs ≤ 2 ^ 104) (Nat.pow_le_pow_right (by decide) (by decide))
theorem VOk.size {V : Int} (h : VOk V (2 ^ 104)) : (toT V).size < 85000 := by
  rw [size_toT]
  have := sum_all ((naf V 0).map (·.2)) (fun p : Nat => (toT (p : Int)).size) 1061 fun p hp' => by
    obtain ⟨x, hx, rfl⟩ := List.mem_map.mp hp'
    exact size_104 (h.le x hx)
  rw [List.length_map] at this
  have h2 : (naf V 0).length ≤ 80 := h.wt
  omega
theorem VOk.sub {V : Int} (h : VOk V (2 ^ 104)) : ∀ x ∈ (toT V).toL, PlOk x.2 := fun x hx => by
  rw [toL_toT] at hx
  obtain ⟨y, hy, rfl⟩ := List.mem_map.mp hx
  exact big_ok (big_104 (h.le y (List.mem_reverse.mp hy)))
theorem VOk.height {V : Int} (h : VOk V (2 ^ 104)) : (toT V).height ≤ 7 := by
  refine height_le_of fun x hx => ?_
  rw [toL_toT] at hx
  obtain ⟨y, hy, rfl⟩ := List.mem_map.mp hx
  have := height_toT 6 (y.2 : Int) (big_cb (big_104 (h.le y (List.mem_reverse.mp hy))))
  show (toT (y.2 : Int)).height + 1 ≤ 7
  omega
theorem VOk.len {V : Int} {M : Nat} (h : VOk V M) : (toT V).toL.length ≤ 80 := by rw [toL_toT, List.length_map, List.length_reverse]; exact h.wt
theorem VOk.mono {V : Int} {M M' : Nat} (h : VOk V M) (hm : M ≤ M') : VOk V M' := ⟨h.wt, fun x hx => Nat.le_trans (h.le x hx) hm⟩
end Sk
set_option Elab.async false
set_option linter.all false
set_option maxRecDepth 100000
set_option maxHeartbeats 1000000
namespace Sk
open PySem L2 Evl
structure Sz (n : Int) (s h : Nat) : Prop where
  sz : (toT n).size ≤ s
  ht : (toT n).height ≤ h
theorem Sz.mono {n : Int} {s h s' h' : Nat} (z : Sz n s h) (hs : s ≤ s') (hh : h ≤ h') : Sz n s' h' := ⟨Nat.le_trans z.sz hs, Nat.le_trans z.ht hh⟩
theorem place_mem {n : Int} {x : Int × Nat} (hx : x ∈ naf n 0) : (toT (x.2 : Int)).size < (toT n).size ∧ (toT (x.2 : Int)).height < (toT n).height :=
  mem_size (x := (x.1, toT (x.2 : Int))) (by rw [toL_toT]; exact List.mem_map.mpr ⟨x, List.mem_reverse.mpr hx, rfl⟩)
theorem Sz.place {n : Int} {s h : Nat} (z : Sz n (s + 1) (h + 1)) {x : Int × Nat} (hx : x ∈ naf n 0) : Sz (x.2 : Int) s h := by
  have := place_mem hx
  have := z.sz
  have := z.ht
  exact ⟨by omega, by omega⟩
theorem ht_zero : (toT 0).height = 0 := by rw [toT_eq, naf_zero]; rfl
theorem ht_one : (toT 1).height = 1 := by decide +kernel
theorem ht_pos {n : Int} (h : n ≠ 0) : 1 ≤ (toT n).height := by
  obtain ⟨x, hx⟩ := List.exists_mem_of_ne_nil _ (naf_ne (p := 0) h)
  have := place_mem hx
  omega
theorem ht_of {n : Int} {k : Nat} (h : ∀ x ∈ naf n 0, (toT (x.2 : Int)).height + 1 ≤ k) : (toT n).height ≤ k := height_le_of fun x hx => by
  rw [toL_toT] at hx
  obtain ⟨y, hy, rfl⟩ := List.mem_map.mp hx
  exact h y (List.mem_reverse.mp hy)
theorem ht_succ : ∀ (k q : Nat), q ≤ k → (toT ((q : Int) + 1)).height ≤ max (toT (q : Int)).height 1 + 1
  | k, 0, _ => by
    have : (toT (((0 : Nat) : Int) + 1)).height = 1 := ht_one
    omega
  | 0, q + 1, h => by omega
  | k + 1, q + 1, h => by
    refine ht_of fun x hx => Nat.succ_le_succ (add_place (q + 1 : Nat) 1 (fun p => (toT (p : Int)).height ≤ max (toT ((q + 1 : Nat) : Int)).height 1) (fun y hy => ?_) (fun y hy => ?_) x hx)
    · have h1 := place_mem hy
      have hl := naf_lt hy
      rw [Int.natAbs_natCast] at hl
      refine ⟨by omega, ?_⟩
      by_cases h0 : y.2 = 0
      · rw [h0]; have : (toT ((0 + 1 : Nat) : Int)).height = 1 := ht_one; omega
      · have h2 := ht_succ k y.2 (by omega)
        have h3 := ht_pos (n := (y.2 : Int)) (by omega)
        have e : ((y.2 + 1 : Nat) : Int) = (y.2 : Int) + 1 := by omega
        rw [e]
        omega
    · have hy0 : y.2 = 0 := by
        have := naf_lt hy
        have e : Int.natAbs 1 = 1 := rfl
        omega
      rw [hy0]
      have h0 : (toT ((0 : Nat) : Int)).height = 0 := ht_zero
      have h1 : (toT ((0 + 1 : Nat) : Int)).height = 1 := ht_one
      omega
theorem ht_sum (a b : Int) : (toT (a + b)).height ≤ max (max (toT a).height (toT b).height) 1 + 1 := by
  have pl : ∀ (n : Int) (m : Nat), (toT n).height ≤ m → 1 ≤ m → ∀ y ∈ naf n 0, (toT (y.2 : Int)).height ≤ m ∧ (toT ((y.2 + 1 : Nat) : Int)).height ≤ m := fun n m hn hm y hy => by
    have h1 := place_mem hy
    refine ⟨by omega, ?_⟩
    by_cases h0 : y.2 = 0
    · rw [h0]; have : (toT ((0 + 1 : Nat) : Int)).height = 1 := ht_one; omega
    · have h2 := ht_succ _ y.2 (Nat.le_refl _)
      have h3 := ht_pos (n := (y.2 : Int)) (by omega)
      have e : ((y.2 + 1 : Nat) : Int) = (y.2 : Int) + 1 := by omega
      rw [e]
      omega
  exact ht_of fun x hx => Nat.succ_le_succ (add_place a b (fun p => (toT (p : Int)).height ≤ max (max (toT a).height (toT b).height) 1) (pl a _ (by omega) (by omega)) (pl b _ (by omega) (by omega)) x hx)
theorem Sz.add {a b : Int} {s h s' h' : Nat} (x : Sz a s h) (y : Sz b s' h') {m : Nat} (h1 : h ≤ m) (h2 : h' ≤ m) (hm : 1 ≤ m) : Sz (a + b) (2 * (s + s')) (m + 1) := by
  have e1 := size_sum a b
  have e2 := ht_sum a b
  have := x.sz; have := y.sz; have := x.ht; have := y.ht
  exact ⟨by omega, by omega⟩
theorem naf_negM {n : Int} {x : Int × Nat} (h : x ∈ naf (-n) 0) : ∃ y ∈ naf n 0, x.2 = y.2 := by
  rw [naf_neg _ n 0 (Nat.le_refl _)] at h
  obtain ⟨y, hy, rfl⟩ := List.mem_map.mp h
  exact ⟨y, hy, rfl⟩
theorem size_negI (n : Int) : (toT (-n)).size = (toT n).size := by
  rw [size_toT, size_toT, naf_neg _ n 0 (Nat.le_refl _)]
  simp only [List.map_map]
  rfl
theorem Sz.neg {n : Int} {s h : Nat} (z : Sz n s h) : Sz (-n) s h := ⟨by rw [size_negI]; exact z.sz, ht_of fun x hx => by
  obtain ⟨y, hy, e⟩ := naf_negM hx
  have := place_mem hy
  have := z.ht
  rw [e]
  omega⟩
theorem SS_two {q : Nat} (h : 1 ≤ q) : 2 ≤ SS q := by
  have h1 := size_FF (q : Int)
  obtain ⟨x, hx⟩ := List.exists_mem_of_ne_nil _ (naf_ne (p := 0) (show (q : Int) ≠ 0 by omega))
  have h2 := SS_pos x.2
  have h3 : SS x.2 ≤ FF (q : Int) 0 := by
    unfold FF
    have : ∀ l : List (Int × Nat), x ∈ l → SS x.2 ≤ (l.map fun x => SS x.2).sum := by
      intro l
      induction l with
      | nil => intro h; cases h
      | cons y l ih =>
        intro hm
        have hn : 0 ≤ (l.map fun x => SS x.2).sum := by
          clear ih hm
          induction l with
          | nil => exact Int.le_refl _
          | cons z l ih => rw [List.map_cons, List.sum_cons]; have := SS_nn z.2; omega
        have := SS_nn y.2
        rw [List.map_cons, List.sum_cons]
        rcases List.mem_cons.mp hm with rfl | hm
        · omega
        · have := ih hm; omega
    exact this _ hx
  show 2 ≤ ((toT (q : Int)).size : Int)
  omega
theorem FF_two_len {p : Nat} (hp : 1 ≤ p) (n : Int) : 2 * ((naf n p).length : Int) ≤ FF n p := by
  unfold FF
  have : ∀ l : List (Int × Nat), (∀ x ∈ l, 1 ≤ x.2) → 2 * (l.length : Int) ≤ (l.map fun x => SS x.2).sum := by
    intro l
    induction l with
    | nil => intro _; exact Int.le_refl _
    | cons x l ih =>
      intro h
      have h1 := ih fun y hy => h y (List.mem_cons_of_mem _ hy)
      have h2 := SS_two (h x List.mem_cons_self)
      rw [List.map_cons, List.sum_cons, List.length_cons]
      omega
  exact this _ fun x hx => Nat.le_trans hp (naf_mem_ge _ n (Nat.le_refl _) p x hx).1
theorem wt_size (n : Int) : 2 * wt n ≤ (toT n).size := by
  have h1 := size_FF n
  unfold wt
  rcases Int.emod_two_eq n with h | h
  · have h2 := FF_two_len (p := 0 + 1) (by decide) (n / 2)
    rw [← FF_even h] at h2
    rw [naf_even h]
    omega
  · have h2 := FF_two_len (p := 0 + 1) (by decide) ((n - (2 - n % 4)) / 2)
    have h3 := FF_odd h 0
    have h4 := SS_pos 0
    rw [naf_odd h, List.length_cons]
    omega
theorem Sz.wt {n : Int} {s h : Nat} (z : Sz n s h) : 2 * wt n ≤ s := Nat.le_trans (wt_size n) z.sz
theorem lenT (n : Int) : (toT n).toL.length = wt n := by rw [toL_toT, List.length_map, List.length_reverse]; rfl
theorem memT {n : Int} {x : Int × T} (hx : x ∈ (toT n).toL) : ∃ y ∈ naf n 0, x.1 = y.1 ∧ x.2 = toT (y.2 : Int) := by
  rw [toL_toT] at hx
  obtain ⟨y, hy, rfl⟩ := List.mem_map.mp hx
  exact ⟨y, List.mem_reverse.mp hy, rfl, rfl⟩
theorem Sz.pl {n : Int} {s h : Nat} (z : Sz n s h) (hs : s ≤ 1400) (hh : h ≤ 43) : PlOk (toT n) := by
  refine ⟨toT_can n, Nat.le_trans z.ht hh, sz_ex (by have := z.sz; omega), by rw [lenT]; have := z.wt; omega, fun x hx => ?_⟩
  obtain ⟨y, hy, _, e⟩ := memT hx
  rw [e, lenT]
  have := wt_size (y.2 : Int)
  have := (place_mem hy).1
  have := z.sz
  omega
theorem Sz.sm {n : Int} {s h : Nat} (z : Sz n s h) (h0 : 0 ≤ n) (hs : s < 2000) (hw : Sk.wt n ≤ 500) (hh : h ≤ 42) : SmOk (toT n) :=
  ⟨toT_can n, by rw [toT_val]; exact h0, Nat.le_trans z.ht hh, by have := z.sz; omega, by rw [lenT]; exact hw⟩
theorem Sz.ok {n : Int} {s h : Nat} (z : Sz n s h) (hs : s < 90000) : (toT n).ok := ⟨toT_can n, nn_of_can (toT_can n) (by have := z.sz; omega), by rw [lenT]; have := z.wt; omega⟩
end Sk
set_option Elab.async false
set_option linter.all false
set_option maxRecDepth 100000
set_option maxHeartbeats 1000000
namespace Sk
open PySem L2 Evl
end Sk
set_option Elab.async false
set_option linter.all false
set_option maxRecDepth 100000
set_option maxHeartbeats 1000000
namespace Sk
open PySem L2 Evl
end Sk
set_option Elab.async false
set_option linter.all false
set_option maxRecDepth 100000
set_option maxHeartbeats 1000000
namespace Sk
open PySem L2 Evl
/-- what is wished of an error of class C, at H and behind -/
def Wsh (K : PySem.W.Frag) (ES : L2.St → XK) (σ : L2.St) (H : Hp) (C : Addr) : Prop := ∀ H2, Ex H H2 → ∀ d, ErrAt K C d H2 → ES σ (.ref C) (some d) H2
section
variable {K : PySem.W.Frag} {σ : L2.St} {H H' : Hp} {te tf tg : TE} {R R1 R2 R3 : VP} {ES : L2.St → XK} {WS : WP} {C : Addr}
theorem Wsh.ex (h : Wsh K ES σ H C) (e : Ex H H') : Wsh K ES σ H' C := fun H2 e2 => h H2 (e.trans e2)
variable {CL CN CB : Addr} {a b : Int}
/-- an allowed one -/
def FtR (K : PySem.W.Frag) (n : Int) : VP := fun v H => (toT n).fits ∧ NumV K H v (toT n)
theorem ftR (n : Int) : Mono (FtR K n) := fun v H H' e h => ⟨h.1, h.2.ex e⟩
end
end Sk
set_option Elab.async false
set_option linter.all false
set_option maxRecDepth 100000
set_option maxHeartbeats 1000000
namespace Sk
open PySem L2 Evl
end Sk
set_option Elab.async false
set_option linter.all false
set_option maxRecDepth 100000
set_option maxHeartbeats 1000000
namespace Sk
open PySem L2 Evl
end Sk
set_option Elab.async false
set_option linter.all false
set_option maxRecDepth 100000
set_option maxHeartbeats 1000000
namespace Sk
open PySem L2 Evl
end Sk
set_option Elab.async false
set_option linter.all false
set_option maxRecDepth 100000
set_option maxHeartbeats 1000000
namespace Sk
open PySem L2 Evl
end Sk
set_option Elab.async false
set_option linter.all false
set_option maxRecDepth 100000
set_option maxHeartbeats 1000000
namespace Sk
open PySem L2 Evl
end Sk
set_option Elab.async false
set_option linter.all false
set_option maxRecDepth 100000
set_option maxHeartbeats 1000000
namespace Sk
open PySem L2 Evl
end Sk
set_option Elab.async false
set_option linter.all false
set_option maxRecDepth 100000
set_option maxHeartbeats 1000000
namespace Sk
open PySem L2 Evl
/-- no number of height h is greater -/
def Mx : Nat → Nat
  | 0 => 0
  | 1 => 1
  | 2 => 2
  | h + 3 => 2 ^ (Mx (h + 2) + 1)
theorem Mx_pos : ∀ h, 1 ≤ Mx (h + 1)
  | 0 => Nat.le_refl _
  | 1 => by decide
  | h + 2 => Nat.one_le_two_pow
/-- places up to m: below 2^(m+1) -/
theorem abs_places : ∀ (k : Nat) (n : Int) (p m : Nat), n.natAbs ≤ k → n ≠ 0 → (∀ x ∈ naf n p, x.2 ≤ m) → p ≤ m ∧ n.natAbs < 2 ^ (m + 1 - p)
  | 0, n, p, m, h, h0, _ => by omega
  | k + 1, n, p, m, h, h0, hx => by
    rcases Int.emod_two_eq n with e | e
    · rw [naf_even e] at hx
      obtain ⟨h1, h2⟩ := abs_places k (n / 2) (p + 1) m (by omega) (by omega) hx
      have e2 : m + 1 - p = (m + 1 - (p + 1)) + 1 := by omega
      rw [e2, Nat.pow_succ]
      exact ⟨by omega, by omega⟩
    · rw [naf_odd e] at hx
      have hp : p ≤ m := hx (2 - n % 4, p) List.mem_cons_self
      by_cases hz : (n - (2 - n % 4)) / 2 = 0
      · refine ⟨hp, ?_⟩
        have h1 : n.natAbs = 1 := by omega
        rw [h1]
        exact Nat.one_lt_two_pow (by omega)
      · obtain ⟨h1, h2⟩ := abs_places k ((n - (2 - n % 4)) / 2) (p + 1) m (by omega) hz fun x hx' => hx x (List.mem_cons_of_mem _ hx')
        have hev : (n - (2 - n % 4)) / 2 % 2 = 0 := by omega
        have e2 : m + 1 - p = (m + 1 - (p + 1)) + 1 := by omega
        have e3 : m + 1 - (p + 1) = (m - (p + 1)) + 1 := by omega
        rw [e2, Nat.pow_succ]
        rw [e3, Nat.pow_succ] at h2 ⊢
        generalize (2 : Nat) ^ (m - (p + 1)) = z at *
        exact ⟨hp, by omega⟩
theorem le_Mx : ∀ (h : Nat) (n : Int), (toT n).height ≤ h → n.natAbs ≤ Mx h
  | 0, n, hh => by
    by_cases h0 : n = 0
    · subst h0; exact Nat.le_refl _
    · have := ht_pos h0; omega
  | 1, n, hh => by
    by_cases h0 : n = 0
    · subst h0; decide
    · have := (abs_places _ n 0 0 (Nat.le_refl _) h0 fun x hx => by
        have h1 := place_mem hx
        have h2 := le_Mx 0 (x.2 : Int) (by omega)
        have : Mx 0 = 0 := rfl
        omega).2
      show n.natAbs ≤ 1
      omega
  | 2, n, hh => by
    by_cases h0 : n = 0
    · subst h0; decide
    · have h4 := (abs_places _ n 0 1 (Nat.le_refl _) h0 fun x hx => by
        have h1 := place_mem hx
        have h2 := le_Mx 1 (x.2 : Int) (by omega)
        have : Mx 1 = 1 := rfl
        omega).2
      have h4 : n.natAbs < 4 := h4
      show n.natAbs ≤ 2
      apply Classical.byContradiction
      intro hc
      rcases (show n = 3 ∨ n = -3 by omega) with rfl | rfl
      · have : (toT 3).height = 3 := by decide +kernel
        omega
      · have : (toT (-3)).height = 3 := by decide +kernel
        omega
  | h + 3, n, hh => by
    by_cases h0 : n = 0
    · subst h0; exact Nat.zero_le _
    · have := (abs_places _ n 0 (Mx (h + 2)) (Nat.le_refl _) h0 fun x hx => by
        have h1 := place_mem hx
        have h2 := le_Mx (h + 2) (x.2 : Int) (by omega)
        omega).2
      exact Nat.le_of_lt this
theorem Mx_Cb : ∀ h, 16 * Mx (h + 4) < Cb (h + 6)
  | 0 => by
    have h3 : Cb 3 = 3 := by decide
    have h4 : Cb 4 = 5 := by show 2 ^ (Cb 3 - 1) + 1 = 5; rw [h3]
    have h5 : Cb 5 = 17 := by show 2 ^ (Cb 4 - 1) + 1 = 17; rw [h4]
    have h6 : Cb 6 = 2 ^ 16 + 1 := by show 2 ^ (Cb 5 - 1) + 1 = _; rw [h5]
    have m4 : Mx 4 = 512 := by decide
    rw [h6, m4]
    decide
  | h + 1 => by
    have ih := Mx_Cb h
    have hp : 1 ≤ Mx (h + 4) := Mx_pos (h + 3)
    show 16 * 2 ^ (Mx (h + 4) + 1) < 2 ^ (Cb (h + 6) - 1) + 1
    rw [show (16 : Nat) = 2 ^ 4 from rfl, ← Nat.pow_add]
    exact Nat.lt_succ_of_le (Nat.pow_le_pow_right (by decide) (by omega))
theorem ht16 {n : Int} {h : Nat} (hn : n.natAbs ≤ 16 * Mx (h + 4)) : (toT n).height ≤ h + 5 := height_toT (h + 5) n (Nat.lt_of_le_of_lt hn (Mx_Cb h))
/-- at most k times the greatest allowed one -/
def Mg (n : Int) (k : Nat) : Prop := n.natAbs ≤ k * Mx 40
theorem mg_of {n : Int} (h : (toT n).height ≤ 40) : Mg n 1 := by have := le_Mx 40 n h; unfold Mg; omega
theorem Mg.mono {n : Int} {k k' : Nat} (h : Mg n k) (hk : k ≤ k') : Mg n k' := Nat.le_trans h (Nat.mul_le_mul hk (Nat.le_refl _))
theorem Mg.add {a b : Int} {i j : Nat} (h : Mg a i) (h' : Mg b j) : Mg (a + b) (i + j) := by
  unfold Mg at *
  rw [Nat.add_mul]
  omega
theorem Mg.neg {a : Int} {i : Nat} (h : Mg a i) : Mg (-a) i := by unfold Mg at *; rw [Int.natAbs_neg]; exact h
theorem Mg.sub {a b : Int} {i j : Nat} (h : Mg a i) (h' : Mg b j) : Mg (a - b) (i + j) := by rw [Int.sub_eq_add_neg]; exact h.add h'.neg
theorem Mg.place {n : Int} {k : Nat} (h : Mg n k) {x : Int × Nat} (hx : x ∈ naf n 0) : Mg (x.2 : Int) k := by
  have := naf_lt hx
  unfold Mg at *
  rw [Int.natAbs_natCast]
  omega
theorem Mg.ht {n : Int} {k : Nat} (h : Mg n k) (hk : k ≤ 16) : (toT n).height ≤ 41 := ht16 (h := 36) (Nat.le_trans h (Nat.mul_le_mul hk (Nat.le_refl _)))
structure Bd (n : Int) (s w k g : Nat) : Prop where
  sz : (toT n).size ≤ s
  wt : Sk.wt n ≤ w
  pl : ∀ x ∈ naf n 0, Sk.wt (x.2 : Int) ≤ k
  mg : Mg n g
theorem Bd.mono {n : Int} {s w k g s' w' k' g' : Nat} (h : Bd n s w k g) (h1 : s ≤ s') (h2 : w ≤ w') (h3 : k ≤ k') (h4 : g ≤ g') : Bd n s' w' k' g' :=
  ⟨Nat.le_trans h.sz h1, Nat.le_trans h.wt h2, fun x hx => Nat.le_trans (h.pl x hx) h3, h.mg.mono h4⟩
theorem wt_suc (q : Nat) : Sk.wt ((q + 1 : Nat) : Int) ≤ Sk.wt (q : Int) + 1 := by
  rw [Int.natCast_add]
  exact Nat.le_trans (wt_add _ _) (by rw [show ((1 : Nat) : Int) = 1 from rfl, show Sk.wt 1 = 1 by decide +kernel]; exact Nat.le_refl _)
theorem Bd.add {a b : Int} {s w k g s' w' k' g' m : Nat} (h : Bd a s w k g) (h' : Bd b s' w' k' g') (h1 : k ≤ m) (h2 : k' ≤ m) : Bd (a + b) (2 * (s + s')) (w + w') (m + 1) (g + g') := by
  have e1 := size_sum a b
  have e2 := wt_add a b
  have := h.sz; have := h'.sz; have := h.wt; have := h'.wt
  refine ⟨by omega, by omega, add_place a b (fun p => Sk.wt (p : Int) ≤ m + 1) (fun x hx => ?_) (fun x hx => ?_), h.mg.add h'.mg⟩
  · have := h.pl x hx; have := wt_suc x.2; exact ⟨by omega, by omega⟩
  · have := h'.pl x hx; have := wt_suc x.2; exact ⟨by omega, by omega⟩
theorem Bd.neg {a : Int} {s w k g : Nat} (h : Bd a s w k g) : Bd (-a) s w k g := ⟨by rw [size_negI]; exact h.sz, by rw [wt_negI]; exact h.wt, fun x hx => by
  obtain ⟨y, hy, e⟩ := naf_negM hx
  rw [e]
  exact h.pl y hy, h.mg.neg⟩
theorem Bd.sub {a b : Int} {s w k g s' w' k' g' m : Nat} (h : Bd a s w k g) (h' : Bd b s' w' k' g') (h1 : k ≤ m) (h2 : k' ≤ m) : Bd (a - b) (2 * (s + s')) (w + w') (m + 1) (g + g') := by rw [Int.sub_eq_add_neg]; exact h.add h'.neg h1 h2
end Sk
set_option Elab.async false
set_option linter.all false
set_option maxRecDepth 100000
set_option maxHeartbeats 1000000
namespace Sk
namespace Tk
def letters : List Nat := [97, 98, 99, 100, 101, 102, 103, 104, 105, 106, 107, 108, 109, 110, 111, 112, 113, 114, 115, 116, 117, 118, 119, 120, 121, 122, 65, 66, 67, 68, 69, 70, 71, 72, 73, 74, 75, 76, 77, 78, 79, 80, 81, 82, 83, 84, 85, 86, 87, 88, 89, 90]
def digits : List Nat := [48, 49, 50, 51, 52, 53, 54, 55, 56, 57]
def marks : List (List Nat) := [[60, 60], [62, 62], [60, 61], [61, 61], [33, 61], [43], [45], [42], [40], [41], [44], [61], [59], [123], [125], [60]]
def isL (c : Nat) : Bool := decide (c ∈ letters)
def isD (c : Nat) : Bool := decide (c ∈ digits)
def markAt (l : List Nat) : Option (List Nat) := marks.find? fun m => decide (l.take m.length = m)
def tk (l : List Nat) : Option (List Nat) :=
  if l.takeWhile isL ≠ [] then some (l.takeWhile isL)
  else if l.takeWhile isD = [50] ∧ (l.drop 1).take 1 = [94] then some [50, 94]
  else if l.takeWhile isD ≠ [] then some (l.takeWhile isD)
  else markAt l
inductive Toks : List Nat → Option (List (List Nat)) → Prop
  | nil : Toks [] (some [])
  | sp {r o} : Toks r o → Toks (32 :: r) o
  | tok {c r t o} : c ≠ 32 → tk (c :: r) = some t → Toks ((c :: r).drop t.length) o → Toks (c :: r) (o.map (t :: ·))
  | bad {c r} : c ≠ 32 → tk (c :: r) = none → Toks (c :: r) none
theorem take_of_takeWhile (P : Nat → Bool) : ∀ l : List Nat, l.take (l.takeWhile P).length = l.takeWhile P
  | [] => rfl
  | c :: r => by
    rw [List.takeWhile_cons]
    cases P c
    · rfl
    · show (c :: r).take ((r.takeWhile P).length + 1) = c :: r.takeWhile P
      rw [List.take_succ_cons, take_of_takeWhile P r]
theorem mem_takeWhile {P : Nat → Bool} : ∀ {l : List Nat} {x : Nat}, x ∈ l.takeWhile P → P x = true
  | [], x, h => by cases h
  | c :: r, x, h => by
    rw [List.takeWhile_cons] at h
    cases hp : P c with
    | false => rw [hp] at h; cases h
    | true =>
      rw [hp] at h
      rcases List.mem_cons.mp h with h | h
      · rw [h]; exact hp
      · exact mem_takeWhile h
theorem marks_ok : ∀ m ∈ marks, m ≠ [] ∧ 32 ∉ m := by decide
theorem digit_two {l : List Nat} (h : l.takeWhile isD = [50]) (h2 : (l.drop 1).take 1 = [94]) : l.take 2 = [50, 94] := by
  have := take_of_takeWhile isD l
  rw [h] at this
  rw [show (2 : Nat) = 1 + 1 from rfl, List.take_add, h2]
  rw [show ([50] : List Nat).length = 1 from rfl] at this
  rw [this]; rfl
/-- what a token is -/
theorem tk_ok {l t : List Nat} (h : tk l = some t) : l.take t.length = t ∧ t ≠ [] ∧ 32 ∉ t := by
  unfold tk at h
  split at h
  · rename_i h1; cases h
    exact ⟨take_of_takeWhile _ _, h1, fun hm => absurd (mem_takeWhile hm) (by decide)⟩
  · split at h
    · rename_i h2; cases h
      exact ⟨digit_two h2.1 h2.2, by decide, by decide⟩
    · split at h
      · rename_i h3; cases h
        exact ⟨take_of_takeWhile _ _, h3, fun hm => absurd (mem_takeWhile hm) (by decide)⟩
      · unfold markAt at h
        have h1 := List.find?_some h
        have h2 := List.mem_of_find?_eq_some h
        exact ⟨of_decide_eq_true h1, marks_ok t h2⟩
def good (t : List Nat) : Prop := t ∈ [[43], [45], [42], [60, 60], [62, 62], [40], [41], [44], [61], [59], [123], [125], [60], [60, 61], [61, 61], [33, 61], [50, 94]] ∨ (t ≠ [] ∧ ∀ c ∈ t, isL c = true) ∨ (t ≠ [] ∧ ∀ c ∈ t, isD c = true)
def cont (t : List Nat) (c : Nat) : Bool :=
  (match t.getLast? with | some z => (isL z && isL c) || (isD z && isD c) || (decide (z ∈ [60, 62, 61, 33]) && decide (c ∈ [60, 62, 61])) | none => false) || (decide (t = [50]) && decide (c = 94))
def okN (t r : List Nat) : Prop := ∀ c ∈ r.head?, cont t c = false
theorem takeWhile_all {P : Nat → Bool} : ∀ {t r : List Nat}, (∀ c ∈ t, P c = true) → (∀ c ∈ r.head?, P c = false) → (t ++ r).takeWhile P = t
  | [], [], _, _ => rfl
  | [], c :: r, _, h => by
    show (c :: r).takeWhile P = []
    rw [List.takeWhile_cons, h c rfl]; rfl
  | c :: t, r, h1, h2 => by
    show (c :: (t ++ r)).takeWhile P = c :: t
    rw [List.takeWhile_cons, h1 c (List.mem_cons_self ..)]
    exact congrArg (c :: ·) (takeWhile_all (fun x hx => h1 x (List.mem_cons_of_mem _ hx)) h2)
theorem last_mem {t : List Nat} {z : Nat} (h : t.getLast? = some z) : z ∈ t := List.mem_of_getLast? h
theorem not_both (c : Nat) (h : isD c = true) : isL c = false := by
  have := of_decide_eq_true h
  simp only [digits, List.mem_cons, List.not_mem_nil, or_false] at this
  rcases this with h | h | h | h | h | h | h | h | h | h <;> subst h <;> decide
theorem tk_good {t r : List Nat} (h : good t) (hr : okN t r) : tk (t ++ r) = some t := by
  rcases h with h | ⟨h0, h⟩ | ⟨h0, h⟩
  · simp only [List.mem_cons, List.not_mem_nil, or_false] at h
    rcases h with h | h | h | h | h | h | h | h | h | h | h | h | h | h | h | h | h <;> subst h <;> cases r with
    | nil => decide
    | cons c r =>
      have hc := hr c rfl
      try simp [cont, isL, isD, letters, digits] at hc
      first
        | (simp [tk, isL, isD, letters, digits, List.takeWhile_cons, markAt, marks, List.find?]; done)
        | (simp [tk, isL, isD, letters, digits, List.takeWhile_cons, markAt, marks, List.find?, hc]; done)
  · have e : (t ++ r).takeWhile isL = t := takeWhile_all h fun c hc => by
      obtain ⟨z, hz⟩ : ∃ z, t.getLast? = some z := ⟨_, List.getLast?_eq_getLast h0⟩
      have := hr c hc
      unfold cont at this
      rw [hz] at this
      simp only [Bool.or_eq_false_iff, Bool.and_eq_false_iff] at this
      rcases this.1.1.1 with q | q
      · rw [h z (last_mem hz)] at q; cases q
      · exact q
    unfold tk
    rw [e, if_pos h0]
  · have e : (t ++ r).takeWhile isD = t := takeWhile_all h fun c hc => by
      obtain ⟨z, hz⟩ : ∃ z, t.getLast? = some z := ⟨_, List.getLast?_eq_getLast h0⟩
      have := hr c hc
      unfold cont at this
      rw [hz] at this
      simp only [Bool.or_eq_false_iff, Bool.and_eq_false_iff] at this
      rcases this.1.1.2 with q | q
      · rw [h z (last_mem hz)] at q; cases q
      · exact q
    have e2 : (t ++ r).takeWhile isL = [] := by
      cases t with
      | nil => exact absurd rfl h0
      | cons c t =>
        show (c :: (t ++ r)).takeWhile isL = []
        rw [List.takeWhile_cons, not_both c (h c (List.mem_cons_self ..))]; rfl
    unfold tk
    rw [e2, if_neg (by simp), e]
    rw [if_neg, if_pos h0]
    rintro ⟨rfl, q⟩
    cases r with
    | nil => cases q
    | cons c r =>
      have := hr c rfl
      have hc : c = 94 := by simpa using q
      subst hc
      revert this
      decide
theorem good_ne {t : List Nat} (h : good t) : t ≠ [] ∧ t.head? ≠ some 32 := by
  have hL : isL 32 = false := by decide
  have hD : isD 32 = false := by decide
  rcases h with h | ⟨h0, h⟩ | ⟨h0, h⟩
  · revert t; decide
  · exact ⟨h0, fun q => by
      cases t with
      | nil => cases q
      | cons c t => cases q; rw [h 32 (List.mem_cons_self ..)] at hL; cases hL⟩
  · exact ⟨h0, fun q => by
      cases t with
      | nil => cases q
      | cons c t => cases q; rw [h 32 (List.mem_cons_self ..)] at hD; cases hD⟩
theorem toks_good {t r : List Nat} {o} (h : good t) (hr : okN t r) (ho : Toks r o) : Toks (t ++ r) (o.map (t :: ·)) := by
  have h1 := tk_good h hr
  have h2 := good_ne h
  cases t with
  | nil => exact absurd rfl h2.1
  | cons c t =>
    refine .tok (fun q => h2.2 (by rw [q]; rfl)) h1 ?_
    have : (c :: (t ++ r)).drop (c :: t).length = r := by
      show ((c :: t) ++ r).drop (c :: t).length = r
      exact List.drop_left
    change Toks (List.drop (c :: t).length (c :: (t ++ r))) o
    rw [this]
    exact ho
theorem toks_sp {r : List Nat} {o} (h : Toks r o) : ∀ g : Nat, Toks (List.replicate g 32 ++ r) o
  | 0 => h
  | g + 1 => .sp (toks_sp h g)
theorem cont_sp (t : List Nat) : cont t 32 = false := by
  unfold cont
  have hL : isL 32 = false := by decide
  have hD : isD 32 = false := by decide
  rw [hL, hD]
  cases t.getLast? <;> simp
/-- a text so far: its tokens are ts, whatever follows (if it does not go on with the last one) -/
def Pre (ts : List (List Nat)) (l : List Nat) : Prop := ∀ r o, (∀ t ∈ ts.getLast?, okN t r) → Toks r o → Toks (l ++ r) (o.map (ts ++ ·))
theorem pre_nil (g : Nat) : Pre [] (List.replicate g 32) := fun r o _ h => by
  have : o.map (([] : List (List Nat)) ++ ·) = o := by cases o <;> rfl
  rw [this]
  exact toks_sp h g
theorem pre_snoc {ts : List (List Nat)} {l t : List Nat} {g : Nat} (h : Pre ts l) (hg : good t) (hs : g = 0 → ∀ u ∈ ts.getLast?, ∀ c ∈ t.head?, cont u c = false) : Pre (ts ++ [t]) (l ++ List.replicate g 32 ++ t) := fun r o hr ho => by
  have h1 := toks_sp (toks_good hg (hr t (by simp)) ho) g
  have h2 := h _ _ (fun u hu c hc => by
    cases g with
    | zero =>
      refine hs rfl u hu c ?_
      have hn := (good_ne hg).1
      cases t with
      | nil => exact absurd rfl hn
      | cons d t => exact hc
    | succ g =>
      have : c = 32 := by simpa [List.replicate_succ] using hc.symm
      rw [this]; exact cont_sp u) h1
  rw [List.append_assoc, List.append_assoc]
  have : (o.map (t :: ·)).map (ts ++ ·) = o.map ((ts ++ [t]) ++ ·) := by cases o <;> simp
  rw [this] at h2
  exact h2
theorem pre_end {ts : List (List Nat)} {l : List Nat} (h : Pre ts l) (g : Nat) : Toks (l ++ List.replicate g 32) (some ts) := by
  have h1 : Toks (List.replicate g 32) (some []) := by
    have := toks_sp .nil g
    rw [List.append_nil] at this
    exact this
  have := h _ _ (fun u hu c hc => by
    cases g with
    | zero => cases hc
    | succ g =>
      have : c = 32 := by simpa [List.replicate_succ] using hc.symm
      rw [this]; exact cont_sp u) h1
  simpa using this
end Tk
end Sk
set_option Elab.async false
set_option linter.all false
set_option maxRecDepth 100000
set_option maxHeartbeats 1000000
namespace Sk
open PySem L2 Evl
/-- a text of these signs -/
def mkS (l : List Nat) : Str := ⟨l.toArray⟩
abbrev vS (l : List Nat) : V := .str (mkS l)
theorem mkS_len (l : List Nat) : (mkS l).length = l.length := by simp [mkS, Str.length]
theorem mkS_inj {l m : List Nat} : mkS l = mkS m ↔ l = m := ⟨fun h => by simpa [mkS] using h, fun h => by rw [h]⟩
theorem mkS_app (l m : List Nat) : mkS l ++ mkS m = mkS (l ++ m) := by
  show (⟨l.toArray ++ m.toArray⟩ : Str) = ⟨(l ++ m).toArray⟩
  simp
theorem vS_dec {l m : List Nat} : decide (vS l = vS m) = decide (l = m) := by
  rw [Bool.eq_iff_iff, decide_eq_true_eq, decide_eq_true_eq]
  exact ⟨fun h => by injection h with h; exact mkS_inj.mp h, fun h => by rw [h]⟩
def xAddS : R2 := fun x y H Q => ∃ i j, x = .str i ∧ y = .str j ∧ i.length + j.length ≤ sizeLine ∧ Q (.str (i ++ j)) H
def rInS1 : R2 := fun x y H Q => ∃ (c : Nat) (z : Str), x = .str ⟨#[c]⟩ ∧ y = .str z ∧ Q (.bl (decide (c ∈ z.cps.toList))) H
def xLenS : List V → Hp → VK → Prop := fun xs H Q => ∃ z, xs = [.str z] ∧ z.length ≤ sizeLine ∧ Q (.int z.length) H
section
variable {K : PySem.W.Frag} {σ : L2.St} {H : Hp} {ta tb tc : TE} {l m : List Nat} {c : Nat}
theorem szS {n : Nat} (h : n ≤ 100000) : n ≤ sizeLine := Nat.le_trans h (by decide)
theorem ev_addS (ha : Ev ta σ H (vS l)) (hb : Ev tb σ H (vS m)) (hz : l.length + m.length ≤ 100000) : Ev (tOp xAddS ta tb) σ H (vS (l ++ m)) := ev_op ha hb fun H1 _ Q q => ⟨_, _, rfl, rfl, by rw [mkS_len, mkS_len]; exact szS hz, by rw [mkS_app]; exact q H1 (Ex.refl H1)⟩
theorem ev_lenS (ha : Ev ta σ H (vS l)) (hz : l.length ≤ 100000) : Ev (tCB xLenS (tCons ta tNil)) σ H (.int (l.length : Int)) := ev_cb (ea_cons ha ea_nil) fun H1 e Q q => ⟨_, rfl, by rw [mkS_len]; exact szS hz, by rw [mkS_len]; exact q H1 (Ex.refl H1)⟩
theorem ev_atS {k : Int} (ha : Ev ta σ H (vS l)) (hb : Ev tb σ H (.int k)) (hz : l.length ≤ 100000) (hc : atI l k = some c) : Ev (tOp rIxS ta tb) σ H (vS [c]) := ev_op ha hb fun H1 _ Q q => ⟨_, _, c, rfl, rfl, by rw [mkS_len]; exact szS hz, hc, q H1 (Ex.refl H1)⟩
theorem ev_inS (ha : Ev ta σ H (vS [c])) (hb : Ev tb σ H (vS l)) : Ev (tOp rInS1 ta tb) σ H (.bl (decide (c ∈ l))) := ev_op ha hb fun H1 _ Q q => ⟨c, _, rfl, rfl, q H1 (Ex.refl H1)⟩
theorem ev_slS {tl th : TO} {lo hi : Option Int} (ha : Ev ta σ H (vS l)) (h1 : EvO tl σ H lo) (h2 : EvO th σ H hi) (hz : l.length ≤ 100000) : Ev (tSl rSlS ta tl th) σ H (vS ((l.drop (HT.sIx l.length 0 lo)).take (HT.sIx l.length l.length hi - HT.sIx l.length 0 lo))) := fun H0 e Q q =>
  ha H0 e _ fun H2 e2 => h1 H2 (e.trans e2) _ fun H3 e3 => h2 H3 (e.trans (e2.trans e3)) _ fun H4 e4 => ⟨_, rfl, by rw [mkS_len]; exact szS hz, by
    have : cutS (mkS l) lo hi = mkS ((l.drop (HT.sIx l.length 0 lo)).take (HT.sIx l.length l.length hi - HT.sIx l.length 0 lo)) := by
      unfold cutS
      rw [mkS_len]
      rfl
    rw [this]
    exact q H4 (e2.trans (e3.trans e4))⟩
theorem ev_eqS (ha : Ev ta σ H (vS l)) (hb : Ev tb σ H (vS m)) : Ev (tOp rEq ta tb) σ H (.bl (decide (l = m))) := by
  have := ev_eq ha hb rfl
  rw [vS_dec] at this
  exact this
theorem et_truS (ha : Ev ta σ H (vS l)) (hz : l.length ≤ 100000) : EvT (tTruK K ta) σ H (!l.isEmpty) := fun H1 e Q q => ha H1 e _ fun H2 e2 => ⟨_, ⟨by rw [mkS_len]; exact szS hz, rfl⟩, by
  have : (((mkS l).length : Int) != 0) = !l.isEmpty := by
    rw [mkS_len]
    cases l with
    | nil => rfl
    | cons a r => simp; omega
  rw [this]
  exact q H2 e2⟩
theorem sl_nat {l : List Nat} {i j : Nat} (hi : i ≤ l.length) (hj : j ≤ l.length) : ((l.drop (HT.sIx l.length 0 (some (i : Int)))).take (HT.sIx l.length l.length (some (j : Int)) - HT.sIx l.length 0 (some (i : Int)))) = (l.drop i).take (j - i) := by
  rw [HT.sIx_nat, HT.sIx_nat, Nat.min_eq_left hi, Nat.min_eq_left hj]
theorem sl_any {l : List Nat} {i j : Nat} (hi : i ≤ l.length) : ((l.drop (HT.sIx l.length 0 (some (i : Int)))).take (HT.sIx l.length l.length (some (j : Int)) - HT.sIx l.length 0 (some (i : Int)))) = (l.drop i).take (j - i) := by
  rcases Nat.le_total j l.length with h | h
  · exact sl_nat hi h
  · rw [HT.sIx_nat, HT.sIx_nat, Nat.min_eq_left hi, Nat.min_eq_right h]
    rw [List.take_of_length_le (by rw [List.length_drop]; exact Nat.le_refl _), List.take_of_length_le (by rw [List.length_drop]; omega)]
theorem ev_cut {te tf : TE} {a b : Int} {i j : Nat} (ha : Ev ta σ H (vS l)) (h1 : Ev te σ H (.int a)) (ea : a = (i : Int)) (h2 : Ev tf σ H (.int b)) (eb : b = (j : Int)) (hi : i ≤ l.length) (hz : l.length ≤ 100000) : Ev (tSl rSlS ta (tPart te) (tPart tf)) σ H (vS ((l.drop i).take (j - i))) := by
  subst ea eb
  have := ev_slS ha (eo_some h1) (eo_some h2) hz
  rw [sl_any hi] at this
  exact this
theorem atI_n {α : Type} {xs : List α} {i : Nat} {c : α} (h : xs[i]? = some c) : atI xs (i : Int) = some c := atI_nat h
end
end Sk
set_option Elab.async false
set_option linter.all false
set_option maxRecDepth 100000
set_option maxHeartbeats 1000000
namespace Sk
open PySem L2 Evl
theorem ev_cS {σ : L2.St} {H : Hp} {s : Str} {l : List Nat} (h : s = mkS l) : Ev (tC (.str s)) σ H (vS l) := by rw [h]; exact ev_c
def pRunOf : V → V → V → Hp → VP → Prop := fun x y z H R => ∃ (cs l : List Nat) (i : Nat), x = vS cs ∧ y = vS l ∧ z = .int (i : Int) ∧ i ≤ l.length ∧ l.length ≤ 100000 ∧ R = fun v _ => v = vS ((l.drop i).takeWhile fun c => decide (c ∈ cs))
def sp_run_of (K : PySem.W.Frag) : Sp := spF3 pRunOf
def t_run_of (K : PySem.W.Frag) : TS := (tSeq (tAsg (tVar 2) (gName 3))
    (tSeq (tWhile (tAnd (tTest (tOp xLt (tVar 3) (tCB xLenS (tCons (tVar 1) tNil)))) (tTest (tOp rInS1 (tOp rIxS (tVar 1) (tVar 3)) (tVar 0)))) (tAug 3 (tC (.int 1)) (ipI fun i j => i + j)))
    (tRet (tSl rSlS (tVar 1) (tPart (tVar 2)) (tPart (tVar 3))))))
theorem takeWhile_at {P : Nat → Bool} {d : List Nat} {n : Nat} (h1 : ∀ c ∈ d.take n, P c = true) (h2 : ∀ c, d[n]? = some c → P c = false) : d.takeWhile P = d.take n := by
  have h3 : (d.take n ++ d.drop n).takeWhile P = d.take n := Tk.takeWhile_all h1 fun c hc => h2 c (by rw [List.head?_drop] at hc; exact hc)
  rw [List.take_append_drop] at h3
  exact h3
theorem getS {l : List Nat} {j : Nat} (h : j < l.length) : l[j]? = some (l.getD j 0) := by
  rw [List.getD_eq_getElem?_getD, List.getElem?_eq_getElem h]; rfl
theorem pure_run_of {K : PySem.W.Frag} {vs : List V} {H : Hp} {Q : VK} {E : XK} (h : sp_run_of K vs H Q E) : t_run_of K { nx := fun _ H' => Q .non H', rt := Q } (start ["characters", "text", "at", "end"] vs) H := by
  obtain ⟨x, y, z, R, rfl, ⟨cs, l, i, rfl, rfl, rfl, hi, hl, rfl⟩, k⟩ := h
  refine q_asg (ev_var rfl) fun H1 e1 => ?_
  refine q_while' (fun m σ H' => ∃ j : Nat, σ = [some (vS cs), some (vS l), some (.int (i : Int)), some (.int (j : Int))] ∧ Ex H H' ∧ i ≤ j ∧ j ≤ l.length ∧ m = l.length - j ∧ ∀ c ∈ (l.drop i).take (j - i), decide (c ∈ cs) = true) (l.length - i)
    ⟨i, rfl, e1, Nat.le_refl _, hi, rfl, fun c hc => by rw [Nat.sub_self] at hc; cases hc⟩ ?_
  rintro m σ' H' ⟨j, rfl, e2, h1, h2, rfl, h3⟩
  refine ⟨decide ((j : Int) < (l.length : Int)) && decide (l.getD j 0 ∈ cs), et_and (et_test (ev_lt (ev_var rfl) (ev_lenS (ev_var rfl) hl))) (fun hb => et_test (ev_inS (ev_atS (ev_var rfl) (ev_var rfl) hl (atI_n (getS (by have := of_decide_eq_true hb; omega)))) (ev_var rfl))), fun hb H3 e3 => ?_, fun hb H3 e3 => ?_⟩
  · rw [Bool.and_eq_true, decide_eq_true_eq] at hb
    have hj : j < l.length := by omega
    refine s_aug rfl ev_c fun H4 e4 => ⟨l.length - (j + 1), by omega, j + 1, rfl, e2.trans (e3.trans e4), by omega, hj, rfl, fun c hc => ?_⟩
    rw [show j + 1 - i = (j - i) + 1 by omega, List.take_add] at hc
    rcases List.mem_append.mp hc with q | q
    · exact h3 c q
    · rw [List.drop_drop, show i + (j - i) = j by omega] at q
      have : (l.drop j).take 1 = [l.getD j 0] := by
        rw [List.drop_eq_getElem_cons hj, List.getD_eq_getElem?_getD, List.getElem?_eq_getElem hj]; rfl
      rw [this, List.mem_singleton] at q
      rw [q]; exact hb.2
  · refine s_ret (ev_is (ev_slS (ev_var rfl) (eo_some (ev_var rfl)) (eo_some (ev_var rfl)) hl) (by rw [sl_nat hi h2])) fun H4 e4 => k _ _ (e2.trans (e3.trans e4)) ?_
    show vS _ = vS _
    rw [takeWhile_at (n := j - i) h3]
    intro c hc
    rw [List.getElem?_drop, show i + (j - i) = j by omega] at hc
    rw [Bool.and_eq_false_iff] at hb
    have hj : j < l.length := (List.getElem?_eq_some_iff.mp hc).1
    rcases hb with q | q
    · exact absurd (of_decide_eq_false q) (by omega)
    · rw [getS hj] at hc
      cases hc
      exact q
def marksD : PyData := .tuple (Tk.marks.map fun m => .str (mkS m))
def MarksAt (K : PySem.W.Frag) (a : Addr) : Prop := ∀ H, Dp K H (.ref a) marksD
theorem marks_mk {K : PySem.W.Frag} {n : Nat} {a : Addr} (h : kdat K n (.ref a) = some marksD) : MarksAt K a := kdat_ref h
theorem dpS {K : PySem.W.Frag} {H : Hp} : ∀ {ls : List (List Nat)} {xs : List V}, DpAll K H xs (ls.map fun m => .str (mkS m)) → xs = ls.map vS
  | [], xs, h => by cases h; rfl
  | m :: ls, xs, h => by
    cases h with
    | cons h1 h2 =>
      cases h1
      rw [dpS h2]; rfl
theorem marks_sq {K : PySem.W.Frag} {a : Addr} (h : MarksAt K a) (H : Hp) : SqT K H a (Tk.marks.map vS) := by
  have := h H
  unfold marksD at this
  cases this with
  | tup h1 h2 => rw [← dpS h2]; exact h1
def pTokenAt (CB : Addr) : V → V → Hp → VP → WP → Prop := fun x y H R W => ∃ (l : List Nat) (i : Nat), x = vS l ∧ y = .int (i : Int) ∧ i < l.length ∧ l.length ≤ 1000 ∧ (∀ t, Tk.tk (l.drop i) = some t → ∀ H', R (vS t) H') ∧ (Tk.tk (l.drop i) = none → W CB)
def sp_token_at (K : PySem.W.Frag) (CB : Addr) : Sp := spX2 K (pTokenAt CB)
def t_token_at (K : PySem.W.Frag) (a_BadForm : Addr) (a_MARKS : Addr) (E : XK) : TS := (tSeq (tAsg (tCall (sp_run_of K) [] E0 (tCons (tC (.str "abcdefghijklmnopqrstuvwxyzABCDEFGHIJKLMNOPQRSTUVWXYZ")) (tCons (tVar 0) (tCons (tVar 1) tNil)))) (gName 2))
    (tSeq (tIfS (tTruK K (tVar 2)) (tRet (tVar 2)) tNext)
    (tSeq (tAsg (tCall (sp_run_of K) [] E0 (tCons (tC (.str "0123456789")) (tCons (tVar 0) (tCons (tVar 1) tNil)))) (gName 3))
    (tSeq (tIfS (tAnd (tTest (tOp rEq (tVar 3) (tC (.str "2")))) (tTest (tOp rEq (tSl rSlS (tVar 0) (tPart (tOp xAdd (tVar 1) (tC (.int 1)))) (tPart (tOp xAdd (tVar 1) (tC (.int 2))))) (tC (.str "^"))))) (tRet (tC (.str "2^"))) tNext)
    (tSeq (tIfS (tTruK K (tVar 3)) (tRet (tVar 3)) tNext)
    (tSeq (tFor (iTup K (tC (.ref a_MARKS))) (gName 4) (tIfS (tTest (tOp rEq (tSl rSlS (tVar 0) (tPart (tVar 1)) (tPart (tOp xAdd (tVar 1) (tCB xLenS (tCons (tVar 4) tNil))))) (tVar 4))) (tRet (tVar 4)) tNext))
    (tRaise K E a_BadForm)))))))
theorem er_run {K : PySem.W.Frag} {σ : L2.St} {H : Hp} {te : TE} {i j : Nat} {cs l : List Nat} {n : Nat} (h : Ev te σ H (vS cs)) (hi : σ[i]? = some (some (vS l))) (hj : σ[j]? = some (some (.int (n : Int)))) (hn : n ≤ l.length) (hl : l.length ≤ 100000) : Ev (tCall (sp_run_of K) [] E0 (tCons te (tCons (tVar i) (tCons (tVar j) tNil)))) σ H (vS ((l.drop n).takeWhile fun c => decide (c ∈ cs))) :=
  ev_er (er_call3 (R1 := fun v _ => v = vS cs) (R2 := fun v _ => v = vS l) (R3 := fun v _ => v = .int (n : Int)) (er_is h) monoC (er_is (ev_var hi)) monoC (er_is (ev_var hj)) monoC fun v w u H1 e1 g1 g2 g3 => ⟨cs, l, n, g1, g2, g3, hn, hl, rfl⟩)
theorem pure_token_at {K : PySem.W.Frag} {CB aM : Addr} (hM : MarksAt K aM) {vs : List V} {H : Hp} {Q : VK} {E : XK} (h : sp_token_at K CB vs H Q E) : t_token_at K CB aM E { nx := fun _ H' => Q .non H', rt := Q } (start ["text", "at", "word", "digits", "mark"] vs) H := by
  obtain ⟨x, y, R, W, rfl, ⟨l, i, rfl, rfl, hi, hl, hR, hW⟩, k, kE⟩ := h
  have hz : l.length ≤ 100000 := by omega
  have hlw : ∀ (P : Nat → Bool), ((l.drop i).takeWhile P).length ≤ 100000 := fun P => by
    have h1 := (List.takeWhile_sublist P (l := l.drop i)).length_le
    rw [List.length_drop] at h1
    omega
  refine q_asg (er_run (cs := Tk.letters) (ev_cS (by decide +kernel)) rfl rfl (Nat.le_of_lt hi) hz) fun H1 e1 => ?_
  refine q_when (et_truS (ev_var rfl) (hlw _)) (fun hb H2 e2 => ?_) (fun hb H2 e2 => ?_)
  · refine s_ret (ev_var rfl) fun H3 e3 => k _ _ (e1.trans (e2.trans e3)) (hR _ ?_ H3)
    unfold Tk.tk
    rw [if_pos]
    · rfl
    · intro q
      have q' : (l.drop i).takeWhile (fun c => decide (c ∈ Tk.letters)) = [] := q
      rw [q'] at hb; cases hb
  have hL : (l.drop i).takeWhile Tk.isL = [] := by
    cases hq : (l.drop i).takeWhile (fun c => decide (c ∈ Tk.letters)) with
    | nil => exact hq
    | cons c r => rw [hq] at hb; cases hb
  have hD : ((l.drop i).takeWhile fun c => decide (c ∈ Tk.digits)) = (l.drop i).takeWhile Tk.isD := rfl
  refine q_asg (er_run (cs := Tk.digits) (ev_cS (by decide +kernel)) rfl rfl (Nat.le_of_lt hi) hz) fun H3 e3 => ?_
  rw [hD]
  have esl : ∀ {σ : L2.St} {H' : Hp}, σ[0]? = some (some (vS l)) → σ[1]? = some (some (.int (i : Int))) → Ev (tSl rSlS (tVar 0) (tPart (tOp xAdd (tVar 1) (tC (.int 1)))) (tPart (tOp xAdd (tVar 1) (tC (.int 2))))) σ H' (vS (((l.drop i).drop 1).take 1)) := fun h0 h1 =>
    ev_is (ev_cut (i := i + 1) (j := i + 2) (ev_var h0) (ev_add (ev_var h1) ev_c) (by omega) (ev_add (ev_var h1) ev_c) (by omega) (by omega) hz) (by rw [List.drop_drop, show i + 2 - (i + 1) = 1 by omega])
  refine q_when (et_and (et_test (ev_eqS (ev_var rfl) (ev_cS (l := [50]) (by rfl)))) (fun _ => et_test (ev_eqS (esl rfl rfl) (ev_cS (l := [94]) (by rfl))))) (fun hb2 H4 e4 => ?_) (fun hb2 H4 e4 => ?_)
  · rw [Bool.and_eq_true, decide_eq_true_eq, decide_eq_true_eq] at hb2
    refine s_ret (ev_cS (l := [50, 94]) (by rfl)) fun H5 e5 => k _ _ (e1.trans (e2.trans (e3.trans (e4.trans e5)))) (hR _ ?_ H5)
    unfold Tk.tk
    rw [if_neg (by rw [hL]; exact fun h => h rfl), if_pos hb2]
  have hb2' : ¬ ((l.drop i).takeWhile Tk.isD = [50] ∧ ((l.drop i).drop 1).take 1 = [94]) := fun q => by
    rw [decide_eq_true q.1, decide_eq_true q.2] at hb2; cases hb2
  refine q_when (et_truS (ev_var rfl) (hlw _)) (fun hb3 H5 e5 => ?_) (fun hb3 H5 e5 => ?_)
  · refine s_ret (ev_var rfl) fun H6 e6 => k _ _ (e1.trans (e2.trans (e3.trans (e4.trans (e5.trans e6))))) (hR _ ?_ H6)
    unfold Tk.tk
    rw [if_neg (by rw [hL]; exact fun h => h rfl), if_neg hb2', if_pos]
    intro q
    rw [q] at hb3; cases hb3
  have hD0 : (l.drop i).takeWhile Tk.isD = [] := by
    cases hq : (l.drop i).takeWhile Tk.isD with
    | nil => rfl
    | cons c r => rw [hq] at hb3; cases hb3
  have htk : Tk.tk (l.drop i) = Tk.markAt (l.drop i) := by
    unfold Tk.tk
    rw [if_neg (by rw [hL]; exact fun h => h rfl), if_neg hb2', if_neg (by rw [hD0]; exact fun h => h rfl)]
  have e15 : Ex H H5 := e1.trans (e2.trans (e3.trans (e4.trans e5)))
  refine q_forT (xs := Tk.marks.map vS) ev_c (marks_sq hM _) (fun n σ H' => ∃ (w d : V) (z : Option V), σ = [some (vS l), some (.int (i : Int)), some w, some d, z] ∧ Ex H H' ∧ ∀ m ∈ Tk.marks.take n, (!decide ((l.drop i).take m.length = m)) = true)
    (fun H6 e6 => ⟨_, _, _, rfl, e15.trans e6, fun m hm => by cases hm⟩) (fun _ _ _ _ _ => marks_sq hM _) ?_ ?_
  · rintro n x σ' H' hx ⟨w, d, z, rfl, e6, hn⟩
    rw [List.getElem?_map] at hx
    cases hq : Tk.marks[n]? with
    | none => rw [hq] at hx; cases hx
    | some m =>
      rw [hq] at hx
      cases hx
      have hmem := List.mem_of_getElem? hq
      have hml : m.length ≤ 100000 := by
        have : ∀ m ∈ Tk.marks, m.length ≤ 2 := by decide
        have := this m hmem
        omega
      have hdec : Tk.marks = Tk.marks.take n ++ m :: Tk.marks.drop (n + 1) := by
        have hlt := (List.getElem?_eq_some_iff.mp hq).1
        have h2 := (List.getElem?_eq_some_iff.mp hq).2
        rw [← h2, List.getElem_cons_drop, List.take_append_drop]
      refine s_when (b := decide ((l.drop i).take m.length = m)) (et_test (ev_eqS (ev_is (ev_cut (i := i) (j := i + m.length) (ev_var rfl) (ev_var rfl) rfl (ev_add (ev_var rfl) (ev_lenS (ev_var rfl) hml)) (by omega) (Nat.le_of_lt hi) hz) (by rw [Nat.add_sub_cancel_left])) (ev_var rfl))) (fun hb H7 e7 => ?_) (fun hb H7 e7 => ?_)
      · refine s_ret (ev_var rfl) fun H8 e8 => k _ _ (e6.trans (e7.trans e8)) (hR m ?_ H8)
        rw [htk]
        exact List.find?_eq_some_iff_append.mpr ⟨hb, _, _, hdec, hn⟩
      · refine ⟨_, _, _, rfl, e6.trans e7, fun m' hm' => ?_⟩
        rw [List.take_add_one, hq] at hm'
        rcases List.mem_append.mp hm' with q | q
        · exact hn m' q
        · have : m' = m := by simpa using q
          rw [this, hb]; rfl
  · rintro σ' H' ⟨w, d, z, rfl, e6, hn⟩
    refine fun Hz ez => kE CB Hz (e6.trans ez) (hW ?_)
    rw [htk]
    refine List.find?_eq_none.mpr fun m hm => ?_
    have := hn m (by rw [List.length_map, List.take_length]; exact hm)
    simpa using this
end Sk
set_option Elab.async false
set_option linter.all false
set_option maxRecDepth 100000
set_option maxHeartbeats 1000000
namespace Sk
open PySem PySem.Spec PyProof.Rows L2
end Sk
set_option Elab.async false
set_option linter.all false
set_option maxRecDepth 100000
set_option maxHeartbeats 1000000
namespace Sk
open PySem L2 Evl
end Sk
set_option Elab.async false
set_option linter.all false
set_option maxRecDepth 100000
set_option maxHeartbeats 1000000
namespace Sk
open PySem PySem.Spec PyProof.Rows HT L2 Evl
end Sk
set_option Elab.async false
set_option linter.all false
set_option maxRecDepth 100000
set_option maxHeartbeats 1000000
namespace Sk
open PySem PySem.Spec PyProof.Rows HT L2 Evl
def up (c : Nat) : Nat := if 97 ≤ c ∧ c ≤ 122 then c - 32 else c
def lo (c : Nat) : Nat := if 65 ≤ c ∧ c ≤ 90 then c + 32 else c
end Sk
set_option Elab.async false
set_option linter.all false
set_option maxRecDepth 100000
set_option maxHeartbeats 1000000
namespace Sk
open PySem L2 Evl
/-- a list of texts -/
def StrsL (K : PySem.W.Frag) (ts : List (List Nat)) : VP := fun v H => ∃ p, v = .ref p ∧ SqL K H p (ts.map vS)
def pTokens (K : PySem.W.Frag) (CB : Addr) : V → Hp → VP → WP → Prop := fun x H R W => ∃ (l : List Nat), x = vS l ∧ l.length ≤ 100000 ∧ (1000 < l.length → W CB) ∧ (l.length ≤ 1000 → ∃ o, Tk.Toks l o ∧ (∀ ts, o = some ts → ∀ v H', StrsL K ts v H' → R v H') ∧ (o = none → W CB))
def sp_tokens (K : PySem.W.Frag) (CB : Addr) : Sp := spX1 K (pTokens K CB)
def t_tokens (K : PySem.W.Frag) (a_BadForm : Addr) (E : XK) : TS := (tSeq (tIfS (tTest (tOp xGt (tCB xLenS (tCons (tVar 0) tNil)) (tC (.int 1000)))) (tRaise K E a_BadForm) tNext)
    (tSeq (tAsg (tLst tNil) (gName 1))
    (tSeq (tAsg (tC (.int 0)) (gName 2))
    (tSeq (tWhile (tTest (tOp xLt (tVar 2) (tCB xLenS (tCons (tVar 0) tNil)))) (tIfS (tTest (tOp rEq (tOp rIxS (tVar 0) (tVar 2)) (tC (.str " ")))) (tAug 2 (tC (.int 1)) (ipI fun i j => i + j)) (tSeq (tAsg (tCall (sp_token_at K a_BadForm) [] E (tCons (tVar 0) (tCons (tVar 2) tNil))) (gName 3))
    (tSeq (tDrop (tBM K "list" rAppend (tVar 1) (tCons (tVar 3) tNil)))
    (tAug 2 (tCB xLenS (tCons (tVar 3) tNil)) (ipI fun i j => i + j))))))
    (tRet (tVar 1))))))
theorem pure_tokens {K : PySem.W.Frag} {CB : Addr} {vs : List V} {H : Hp} {Q : VK} {E : XK} (h : sp_tokens K CB vs H Q E) : t_tokens K CB E { nx := fun _ H' => Q .non H', rt := Q } (start ["text", "found", "at", "token"] vs) H := by
  obtain ⟨x, R, W, rfl, ⟨l, rfl, hz, hlong, hR⟩, k, kE⟩ := h
  refine q_when (et_test (ev_gt (ev_lenS (ev_var rfl) hz) ev_c)) (fun hb H1 e1 => ?_) (fun hb H1 e1 => ?_)
  · exact (fun Hz ez => kE CB Hz (e1.trans ez) (hlong (by have := of_decide_eq_true hb; omega)))
  have hl : l.length ≤ 1000 := by have := of_decide_eq_false hb; omega
  obtain ⟨o, ho, hRo, hWo⟩ := hR hl
  refine q_asgL (el_lst ea_nil (by decide)) fun p H2 hp e2 h2 => ?_
  refine q_asg ev_c fun H3 e3 => ?_
  have hp0 : H p = none := fresh_back e1 hp
  refine q_while' (fun m σ H' => ∃ (j : Nat) (z : Option V) (acc : List (List Nat)) (o' : Option (List (List Nat))), σ = [some (vS l), some (.ref p), some (.int (j : Int)), z] ∧ Ex H H' ∧ H' p = some (.lst (acc.map vS)) ∧ j ≤ l.length ∧ acc.length ≤ j ∧ m = l.length - j ∧ Tk.Toks (l.drop j) o' ∧ o = o'.map (acc ++ ·)) l.length
    ⟨0, none, [], o, rfl, e1.trans (e2.trans e3), e3 p _ h2, Nat.zero_le _, Nat.le_refl _, rfl, ho, by cases o <;> rfl⟩ ?_
  rintro m σ' H' ⟨j, z, acc, o', rfl, e4, h4, hj, hacc, rfl, hT, hoo⟩
  refine ⟨decide ((j : Int) < (l.length : Int)), et_test (ev_lt (ev_var rfl) (ev_lenS (ev_var rfl) hz)), fun hb2 H5 e5 => ?_, fun hb2 H5 e5 => ?_⟩
  · have hjl : j < l.length := by have := of_decide_eq_true hb2; omega
    have hd : l.drop j = l.getD j 0 :: l.drop (j + 1) := by
      rw [List.drop_eq_getElem_cons hjl, List.getD_eq_getElem?_getD, List.getElem?_eq_getElem hjl]; rfl
    have hat := atI_n (getS hjl)
    rw [hd] at hT
    generalize hc : l.getD j 0 = c at hT hat hd
    refine s_if (b := decide (([c] : List Nat) = [32])) (et_test (ev_eqS (ev_atS (ev_var rfl) (ev_var rfl) hz hat) (ev_cS (by rfl)))) (fun hb3 H6 e6 => ?_) (fun hb3 H6 e6 => ?_)
    · have hc32 : c = 32 := by have := of_decide_eq_true hb3; simpa using this
      have hT2 : Tk.Toks (l.drop (j + 1)) o' := by
        cases hT with
        | sp h => exact h
        | tok q _ _ => exact absurd hc32 q
        | bad q _ => exact absurd hc32 q
      refine s_aug rfl ev_c fun H7 e7 => ⟨l.length - (j + 1), by omega, j + 1, _, acc, o', rfl, e4.trans (e5.trans (e6.trans e7)), (e5.trans (e6.trans e7)) p _ h4, hjl, by omega, rfl, hT2, hoo⟩
    · have hc32 : c ≠ 32 := fun q => by rw [q] at hb3; exact absurd (of_decide_eq_false hb3) (fun h => h rfl)
      have tok : ∀ t, Tk.tk (l.drop j) = some t → ∀ H7, Ex H6 H7 → (tSeq (tDrop (tBM K "list" rAppend (tVar 1) (tCons (tVar 3) tNil))) (tAug 2 (tCB xLenS (tCons (tVar 3) tNil)) (ipI fun i j => i + j)))
          { nx := fun σ2 H2 => ∃ m', m' < l.length - j ∧ ∃ (j : Nat) (z : Option V) (acc : List (List Nat)) (o' : Option (List (List Nat))), σ2 = [some (vS l), some (.ref p), some (.int (j : Int)), z] ∧ Ex H H2 ∧ H2 p = some (.lst (acc.map vS)) ∧ j ≤ l.length ∧ acc.length ≤ j ∧ m' = l.length - j ∧ Tk.Toks (l.drop j) o' ∧ o = o'.map (acc ++ ·), ct := fun σ2 H2 => ∃ m', m' < l.length - j ∧ ∃ (j : Nat) (z : Option V) (acc : List (List Nat)) (o' : Option (List (List Nat))), σ2 = [some (vS l), some (.ref p), some (.int (j : Int)), z] ∧ Ex H H2 ∧ H2 p = some (.lst (acc.map vS)) ∧ j ≤ l.length ∧ acc.length ≤ j ∧ m' = l.length - j ∧ Tk.Toks (l.drop j) o' ∧ o = o'.map (acc ++ ·), bk := fun σ H => tRet (tVar 1) { nx := fun _ H' => Q .non H', rt := Q } σ H, rt := Q } [some (vS l), some (.ref p), some (.int (j : Int)), some (vS t)] H7 := by
        intro t ht H7 e7
        obtain ⟨k1, k2, k3⟩ := Tk.tk_ok ht
        have hpos : 0 < t.length := by
          cases t with
          | nil => exact absurd rfl k2
          | cons => exact Nat.succ_pos _
        have htl : j + t.length ≤ l.length := by
          have := congrArg List.length k1
          rw [List.length_take, List.length_drop] at this
          omega
        obtain ⟨o2, g1, g2⟩ : ∃ o2, Tk.Toks (l.drop (j + t.length)) o2 ∧ o' = o2.map (t :: ·) := by
          rw [hd] at ht
          cases hT with
          | sp h => exact absurd rfl hc32
          | tok q1 q2 q3 =>
            rw [ht] at q2
            cases q2
            rw [← hd, List.drop_drop] at q3
            exact ⟨_, q3, rfl⟩
          | bad q1 q2 => rw [ht] at q2; cases q2
        refine q_app ((e5.trans (e6.trans e7)) p _ h4) (ev_var rfl) (ev_var rfl) (by rw [List.length_map]; omega) fun H8 e8 => ?_
        refine s_aug rfl (ev_lenS (ev_var rfl) (by omega)) fun H9 e9 => ⟨l.length - (j + t.length), by omega, j + t.length, _, acc ++ [t], o2, rfl, (Ex.mut (e4.trans (e5.trans (e6.trans (e7.trans e8)))) hp0).trans e9, ?_, htl, by rw [List.length_append, List.length_singleton]; omega, rfl, g1, ?_⟩
        · rw [List.map_append]
          exact e9 p _ upd_same
        · rw [hoo, g2]
          cases o2 <;> simp
      refine x_call2 (R1 := fun v _ => v = vS l) (R2 := fun v _ => v = .int (j : Int)) (er_is (ev_var rfl)) monoC (er_is (ev_var rfl)) monoC _ fun v v' H7 e7 g1 g2 => ?_
      subst g1 g2
      cases ht : Tk.tk (l.drop j) with
      | some t => exact ⟨fun v _ => v = vS t, fun _ => False, ⟨l, j, rfl, rfl, hjl, hl, fun t' h' H' => by rw [ht] at h'; cases h'; rfl, fun h' => by rw [ht] at h'; cases h'⟩, fun w H8 e8 hw => by subst hw; exact tok t ht H8 (e7.trans e8), fun _ _ _ h => h.elim⟩
      | none =>
        refine ⟨fun _ _ => False, fun C => C = CB, ⟨l, j, rfl, rfl, hjl, hl, fun t' h' H' => (by rw [ht] at h'; cases h'), fun _ => rfl⟩, fun _ _ _ h => h.elim, fun C H8 e8 hC => ?_⟩
        subst hC
        refine kE C H8 (e4.trans (e5.trans (e6.trans (e7.trans e8)))) (hWo ?_)
        rw [hd] at ht
        cases hT with
        | sp h => exact absurd rfl hc32
        | tok q1 q2 q3 => rw [ht] at q2; cases q2
        | bad q1 q2 => rw [hoo]; rfl
  · have hjl : j = l.length := by have := of_decide_eq_false hb2; omega
    rw [hjl, List.drop_length] at hT
    cases hT
    refine s_ret (ev_var rfl) fun H6 e6 => k _ _ (e4.trans (e5.trans e6)) (hRo acc (by rw [hoo]; simp) _ _ ⟨p, rfl, sq_of ((e5.trans e6) p _ h4)⟩)
end Sk
set_option Elab.async false
set_option linter.all false
set_option maxRecDepth 100000
set_option maxHeartbeats 2000000
namespace Sk
open PySem L2 Evl
end Sk
set_option Elab.async false
set_option linter.all false
set_option maxRecDepth 100000
set_option maxHeartbeats 1000000
namespace Sk
open PySem L2 Evl
def RowP : VP := fun v H => ∃ l : List Int, l.length ≤ 4000 ∧ (∀ x ∈ l, 0 ≤ x ∧ x < 1009) ∧ IntsL l v H
def pLRow (K : PySem.W.Frag) : V → Hp → VP → Prop := fun x H R => ∃ (a : Addr) (ns : List Int), x = .ref a ∧ SqL K H a (ns.map V.int) ∧ ns.length ≤ 63 ∧ R = RowP
def sp_law_row (K : PySem.W.Frag) : Sp := spF1 (pLRow K)
def t_law_row (K : PySem.W.Frag) : TS := (tSeq (tAsg (tLst tNil) (gName 1))
    (tSeq (tFor (iRng1 (tCons (tCB (rLenS K) (tCons (tVar 0) tNil)) tNil)) (gName 2) (tSeq (tAsg (tCB xAbs (tCons (tCB xInt1 (tCons (tOp (rIxL K) (tVar 0) (tVar 2)) tNil)) tNil)) (gName 3))
    (tIfS (tTest (tOp xGe (tVar 3) (tOp xPow (tC (.int 10)) (tC (.int 18))))) (tFor (iRng1 (tCons (tC (.int 40)) tNil)) (gName 4) (tIfS (tTest (tOp xGt (tVar 3) (tC (.int 0)))) (tSeq (tDrop (tBM K "list" rAppend (tVar 1) (tCons (tOp xMod (tCB xInt1 (tCons (tVar 3) tNil)) (tC (.int 1009))) tNil)))
    (tAsg (tOp xFdiv (tVar 3) (tC (.int 1009))) (gName 3))) tNext)) (tSeq (tAsg (tOp xMod (tCB xInt1 (tCons (tOp xAdd (tOp xAdd (tOp xMul (tVar 3) (tC (.int 48271))) (tOp xMul (tVar 2) (tC (.int 69621)))) (tC (.int 12345))) tNil)) (tC (.int 2147483647))) (gName 5))
    (tFor (iRng1 (tCons (tC (.int 6)) tNil)) (gName 4) (tSeq (tAsg (tOp xMod (tCB xInt1 (tCons (tOp xAdd (tOp xAdd (tOp xMul (tVar 5) (tC (.int 16807))) (tOp xMul (tC (.int 11)) (tVar 4))) (tC (.int 1))) tNil)) (tC (.int 2147483647))) (gName 5))
    (tDrop (tBM K "list" rAppend (tVar 1) (tCons (tOp xMod (tCB xInt1 (tCons (tOp xFdiv (tVar 5) (tC (.int 7))) tNil)) (tC (.int 1009))) tNil)))))))))
    (tRet (tVar 1))))
theorem pure_law_row {K : PySem.W.Frag} {vs : List V} {H : Hp} {Q : VK} {E : XK} (h : sp_law_row K vs H Q E) : t_law_row K { nx := fun _ H' => Q .non H', rt := Q } (start ["script", "row", "k", "cell", "turn", "mixed"] vs) H := by
  obtain ⟨x, R, rfl, ⟨a, ns, rfl, hs, h63, rfl⟩, k⟩ := h
  refine q_asgL (el_lst ea_nil (by decide)) fun l H1 hl e1 h1 => ?_
  refine q_forR1 (n := (((ns.map V.int).length : Nat) : Int)) (ea_cons (ev_len (ev_var rfl) (ex_l e1 hs)) ea_nil) ⟨by omega, by rw [List.length_map]; omega⟩
    (fun i σ H' => ∃ (z2 z3 z4 z5 : Option V) (ms : List Int), σ = [some (.ref a), some (.ref l), z2, z3, z4, z5] ∧ Ex H H' ∧ H' l = some (.lst (ms.map V.int)) ∧ ms.length ≤ 40 * i ∧ ∀ w ∈ ms, 0 ≤ w ∧ w < 1009)
    (fun H2 e2 => ⟨none, none, none, none, [], rfl, e1.trans e2, e2 l _ h1, by decide, fun w hw => by cases hw⟩) ?_ ?_
  · rintro i σ H' hi ⟨z2, z3, z4, z5, ms, rfl, e2, h2, h3, h4⟩
    rw [List.length_map] at hi
    have hi' : i < ns.length := by omega
    refine q_asg (ev_abs (ev_int1 (ev_ints (ev_var rfl) (ev_var rfl) rfl (ex_l e2 hs) hi'))) fun H3 e3 => ?_
    have hn0 : 0 ≤ (if ns.getD i 0 < 0 then -ns.getD i 0 else ns.getD i 0) := by split <;> omega
    generalize (if ns.getD i 0 < 0 then -ns.getD i 0 else ns.getD i 0) = n at hn0 ⊢
    refine s_if (et_test (ev_ge (ev_var rfl) (ev_pow ev_c ev_c ⟨by decide, by decide, by decide⟩))) (fun _ H4 e4 => ?_) (fun _ H4 e4 => ?_)
    · refine s_forR1 (ea_cons ev_c ea_nil) ⟨by decide, by decide⟩ (fun j σ H5 => ∃ (m : Int) (z4 : Option V) (ms' : List Int), σ = [some (.ref a), some (.ref l), some (.int (i : Int)), some (.int m), z4, z5] ∧ Ex H H5 ∧ H5 l = some (.lst (ms'.map V.int)) ∧ ms'.length ≤ ms.length + j ∧ ∀ w ∈ ms', 0 ≤ w ∧ w < 1009)
        (fun H5 e5 => ⟨n, z4, ms, rfl, ((e2.trans e3).trans e4).trans e5, (e3.trans (e4.trans e5)) l _ h2, by omega, h4⟩) ?_ ?_
      · rintro j σ H5 hj ⟨m, z4, ms', rfl, e5, h5, h6, h7⟩
        refine s_when (et_test (ev_gt (ev_var rfl) ev_c)) (fun _ H6 e6 => ?_) (fun _ H6 e6 => ?_)
        · refine q_app (e6 l _ h5) (ev_var rfl) (ev_mod (ev_int1 (ev_var rfl)) ev_c (by decide)) (by rw [List.length_map]; omega) fun H7 e7 => ?_
          refine s_asg (ev_fdiv (ev_var rfl) ev_c ⟨by decide, by decide⟩) fun H8 e8 => ⟨_, _, ms' ++ [m % 1009], rfl, (Ex.mut (e5.trans (e6.trans e7)) hl).trans e8, ?_, by rw [List.length_append, List.length_singleton]; omega, snocP h7 (by omega)⟩
          rw [List.map_append]
          exact e8 l _ upd_same
        · exact ⟨m, _, ms', rfl, e5.trans e6, e6 l _ h5, by omega, h7⟩
      · rintro σ H5 ⟨m, z4, ms', rfl, e5, h5, h6, h7⟩
        exact ⟨_, _, _, _, ms', rfl, e5, h5, by have : (40 : Int).toNat = 40 := rfl; omega, h7⟩
    · refine q_asg (ev_mod (ev_int1 (ev_add (ev_add (ev_mul (ev_var rfl) ev_c (.inr (by decide))) (ev_mul (ev_var rfl) ev_c (.inr (by decide)))) ev_c)) ev_c (by decide)) fun H5 e5 => ?_
      refine s_forR1 (ea_cons ev_c ea_nil) ⟨by decide, by decide⟩ (fun j σ H5 => ∃ (m : Int) (z4 : Option V) (ms' : List Int), σ = [some (.ref a), some (.ref l), some (.int (i : Int)), some (.int n), z4, some (.int m)] ∧ Ex H H5 ∧ H5 l = some (.lst (ms'.map V.int)) ∧ ms'.length ≤ ms.length + j ∧ ∀ w ∈ ms', 0 ≤ w ∧ w < 1009)
        (fun H6 e6 => ⟨_, z4, ms, rfl, ((e2.trans e3).trans e4).trans (e5.trans e6), (e3.trans (e4.trans (e5.trans e6))) l _ h2, by omega, h4⟩) ?_ ?_
      · rintro j σ H6 hj ⟨m, z4, ms', rfl, e6, h6, h7, h8⟩
        refine q_asg (ev_mod (ev_int1 (ev_add (ev_add (ev_mul (ev_var rfl) ev_c (.inr (by decide))) (ev_mul ev_c (ev_var rfl) (.inl (by decide)))) ev_c)) ev_c (by decide)) fun H7 e7 => ?_
        refine s_app (e7 l _ h6) (ev_var rfl) (ev_mod (ev_int1 (ev_fdiv (ev_var rfl) ev_c ⟨by decide, by decide⟩)) ev_c (by decide)) (by rw [List.length_map]; omega) fun H8 e8 => ?_
        exact ⟨_, _, ms' ++ [_], rfl, Ex.mut ((e6.trans e7).trans e8) hl, by rw [List.map_append]; exact upd_same, by rw [List.length_append, List.length_singleton]; omega, snocP h8 (by omega)⟩
      · rintro σ H6 ⟨m, z4, ms', rfl, e6, h6, h7, h8⟩
        exact ⟨_, _, _, _, ms', rfl, e6, h6, by have : (6 : Int).toNat = 6 := rfl; omega, h8⟩
  · rintro σ H' ⟨z2, z3, z4, z5, ms, rfl, e2, h2, h3, h4⟩
    refine s_ret (ev_var rfl) fun H4 e4 => k _ _ (e2.trans e4) ⟨ms, ?_, h4, l, rfl, e4 l _ h2⟩
    rw [List.length_map, Int.toNat_natCast] at h3
    omega
def atF (l : List Int) (k : Int) : Nat := if 0 ≤ k ∧ k < (l.length : Int) then (l.getD k.toNat 0).toNat else 0
def pLAt : V → V → Hp → VP → Prop := fun x y H R => ∃ (l : List Int) (k : Int), l.length ≤ 4000 ∧ (∀ x ∈ l, 0 ≤ x ∧ x < 1009) ∧ IntsL l x H ∧ y = .int k ∧ R = fun v _ => v = .int (atF l k : Int)
theorem atF_lt {l : List Int} (h : ∀ x ∈ l, 0 ≤ x ∧ x < 1009) (k : Int) : atF l k < 1009 := by
  unfold atF
  split
  · rename_i q
    have := h _ (getD_mem (l := l) (i := k.toNat) (by omega))
    omega
  · omega
def sp_law_at (K : PySem.W.Frag) : Sp := spF2 pLAt
def t_law_at (K : PySem.W.Frag) : TS := (tSeq (tIfS (tTest (tChain xLe xLt (tC (.int 0)) (tVar 1) (tCB (rLenS K) (tCons (tVar 0) tNil)))) (tRet (tOp (rIxL K) (tVar 0) (tVar 1))) tNext)
    (tRet (tC (.int 0))))
theorem pure_law_at {K : PySem.W.Frag} {vs : List V} {H : Hp} {Q : VK} {E : XK} (h : sp_law_at K vs H Q E) : t_law_at K { nx := fun _ H' => Q .non H', rt := Q } (start ["row", "at"] vs) H := by
  obtain ⟨x, y, R, rfl, ⟨l, kk, hl, hb, ⟨p, rfl, hp⟩, rfl, rfl⟩, k⟩ := h
  refine q_when (et_chainI (K := K) ev_c (ev_var rfl) (ev_len (ev_var rfl) (sq_of hp))) (fun hc H1 e1 => ?_) (fun hc H1 e1 => ?_)
  · rw [Bool.and_eq_true, decide_eq_true_eq, decide_eq_true_eq, List.length_map] at hc
    have hlt : kk.toNat < l.length := by omega
    have := hb _ (getD_mem hlt)
    refine s_ret (ev_ints (i := kk.toNat) (ev_var rfl) (ev_var rfl) (by omega) (sq_of (e1 p _ hp)) hlt) fun H2 e2 => k _ _ (e1.trans e2) (congrArg V.int (by unfold atF; rw [if_pos ⟨hc.1, hc.2⟩]; omega))
  · exact s_ret ev_c fun H2 e2 => k _ _ (e1.trans e2) (congrArg V.int (by
      unfold atF
      rw [if_neg]; rfl
      intro q
      rw [List.length_map, decide_eq_true q.1, decide_eq_true q.2] at hc
      cases hc))
end Sk
set_option Elab.async false
set_option linter.all false
set_option maxRecDepth 100000
set_option maxHeartbeats 1000000
namespace Sk
open PySem L2 Evl
end Sk
set_option Elab.async false
set_option linter.all false
set_option maxRecDepth 100000
set_option maxHeartbeats 1000000
namespace Sk
open PySem L2 Evl
end Sk
set_option Elab.async false
set_option linter.all false
set_option maxRecDepth 100000
set_option maxHeartbeats 1000000
namespace Sk
open PySem L2 Evl
end Sk
set_option Elab.async false
set_option linter.all false
set_option maxRecDepth 100000
set_option maxHeartbeats 1000000
namespace Sk
open PySem L2 Evl
end Sk
set_option Elab.async false
set_option linter.all false
set_option maxRecDepth 100000
set_option maxHeartbeats 1000000
namespace Sk
open PySem L2 Evl
end Sk
set_option Elab.async false
set_option linter.all false
set_option maxRecDepth 100000
set_option maxHeartbeats 1000000
namespace Sk
open PySem L2 Evl
end Sk
set_option Elab.async false
set_option linter.all false
set_option maxRecDepth 100000
set_option maxHeartbeats 1000000
namespace Sk
open PySem L2 Evl
end Sk
set_option Elab.async false
set_option linter.all false
set_option maxRecDepth 100000
set_option maxHeartbeats 1000000
namespace Sk
open PySem L2 Evl
end Sk
set_option Elab.async false
set_option linter.all false
set_option maxRecDepth 100000
set_option maxHeartbeats 1000000
namespace Sk
open PySem L2 Evl
inductive OpK | add | sub | mul | up | down deriving DecidableEq
inductive UnK | neg | pow deriving DecidableEq
inductive FnA | len | low | abs | tower deriving DecidableEq
inductive FnB | rem | bit | min | max deriving DecidableEq
def OpK.w : OpK → Str | .add => "add" | .sub => "sub" | .mul => "mul" | .up => "up" | .down => "down"
def UnK.w : UnK → Str | .neg => "neg" | .pow => "pow"
def FnA.w : FnA → Str | .len => "len" | .low => "low" | .abs => "abs" | .tower => "tower"
def FnB.w : FnB → Str | .rem => "rem" | .bit => "bit" | .min => "min" | .max => "max"
inductive Fm
  | int (n : Nat)
  | name (s : List Nat)
  | op (k : OpK) (a b : Fm)
  | un (k : UnK) (a : Fm)
  | fna (f : FnA) (a : Fm)
  | fnb (f : FnB) (a b : Fm)
def Fm.data : Fm → PyData
  | .int n => .tuple [.str "int", .int (n : Int)]
  | .name s => .tuple [.str "name", .str (mkS s)]
  | .op k a b => .tuple [.str k.w, a.data, b.data]
  | .un k a => .tuple [.str k.w, a.data]
  | .fna f a => .tuple [.str "call", .str f.w, .tuple [a.data]]
  | .fnb f a b => .tuple [.str "call", .str f.w, .tuple [a.data, b.data]]
/-- the first operand of a chain of operations, and what follows it -/
def Fm.first : Fm → Fm
  | .op _ a _ => a.first
  | t => t
def Fm.steps : Fm → List (OpK × Fm)
  | .op k a b => a.steps ++ [(k, b)]
  | _ => []
def Fm.isOp : Fm → Bool
  | .op _ _ _ => true
  | _ => false
theorem first_not : ∀ t : Fm, t.first.isOp = false
  | .int _ => rfl
  | .name _ => rfl
  | .op _ a _ => first_not a
  | .un _ _ => rfl
  | .fna _ _ => rfl
  | .fnb _ _ _ => rfl
theorem steps_nil {t : Fm} (h : t.isOp = false) : t.steps = [] := by cases t <;> first | rfl | cases h
theorem first_self {t : Fm} (h : t.isOp = false) : t.first = t := by cases t <;> first | rfl | cases h
inductive EK | refused | range | large | missing deriving DecidableEq
abbrev Rs := Except EK Int
end Sk
set_option Elab.async false
set_option linter.all false
set_option maxRecDepth 100000
set_option maxHeartbeats 1000000
namespace Sk
namespace Rd
def sumK (t : List Nat) : Option OpK := if t = [43] then some .add else if t = [45] then some .sub else none
def prodK (t : List Nat) : Option OpK := if t = [42] then some .mul else if t = [60, 60] then some .up else if t = [62, 62] then some .down else none
def signK (t : List Nat) : Option UnK := if t = [45] then some .neg else if t = [50, 94] then some .pow else none
def fnA (t : List Nat) : Option FnA := if t = [108, 101, 110] then some .len else if t = [108, 111, 119] then some .low else if t = [97, 98, 115] then some .abs else if t = [116, 111, 119, 101, 114] then some .tower else none
def fnB (t : List Nat) : Option FnB := if t = [114, 101, 109] then some .rem else if t = [98, 105, 116] then some .bit else if t = [109, 105, 110] then some .min else if t = [109, 97, 120] then some .max else none
def kws : List (List Nat) := [[105, 102], [101, 108, 115, 101], [116, 117, 114, 110], [115, 104, 111, 119]]
def small : List Nat := [97, 98, 99, 100, 101, 102, 103, 104, 105, 106, 107, 108, 109, 110, 111, 112, 113, 114, 115, 116, 117, 118, 119, 120, 121, 122]
def isFn (t : List Nat) : Bool := (fnA t).isSome || (fnB t).isSome
def isName (t : List Nat) : Bool := !(isFn t || decide (t ∈ kws)) && (decide (1 ≤ t.length ∧ t.length ≤ 4) && t.all fun c => decide (c ∈ small))
def isInt (t : List Nat) : Bool := !(decide (t.take 1 = [48]) && !decide (t = [48])) && (decide (1 ≤ t.length ∧ t.length ≤ 18) && t.all fun c => decide (c ∈ Tk.digits))
def natOf (t : List Nat) : Nat := t.foldl (fun a c => a * 10 + (c - 48)) 0
abbrev Ts := List (List Nat)
abbrev PR := Ts → Option (Fm × Ts)
def hd (l : Ts) : List Nat := l.headD []
def loopT (kf : List Nat → Option OpK) (p : PR) : Nat → Fm → PR
  | 0, t, r => some (t, r)
  | n + 1, t, r => match kf (hd r) with
    | none => some (t, r)
    | some k => match p r.tail with
      | none => none
      | some (u, r') => loopT kf p n (.op k t u) r'
def chain (kf : List Nat → Option OpK) (p : PR) : PR := fun l => match p l with
  | none => none
  | some (t, r) => loopT kf p r.length t r
def close (x : Option (Fm × Ts)) : Option (Fm × Ts) := match x with
  | none => none
  | some (t, r) => if hd r = [41] then some (t, r.tail) else none
def args1 (s : PR) (l : Ts) : Option (Fm × Ts) := if hd l = [40] then close (s l.tail) else none
def args2 (s : PR) (l : Ts) : Option ((Fm × Fm) × Ts) := if hd l = [40] then match s l.tail with
  | none => none
  | some (t, r) => if hd r = [44] then (match s r.tail with
    | none => none
    | some (u, r') => if hd r' = [41] then some ((t, u), r'.tail) else none) else none else none
def part (s : PR) : PR := fun l =>
  if hd l = [40] then close (s l.tail)
  else match fnA (hd l) with
    | some f => (args1 s l.tail).map fun x => (.fna f x.1, x.2)
    | none => match fnB (hd l) with
      | some f => (args2 s l.tail).map fun x => (.fnb f x.1.1 x.1.2, x.2)
      | none => if isName (hd l) = true then some (.name (hd l), l.tail) else if isInt (hd l) = true then some (.int (natOf (hd l)), l.tail) else none
def sign (s g : PR) : PR := fun l => match signK (hd l) with
  | some k => (g l.tail).map fun x => (.un k x.1, x.2)
  | none => part s l
/-- the sum and the sign with so many levels left -/
def lev : Nat → PR × PR
  | 0 => (chain sumK (chain prodK (sign (fun _ => none) fun _ => none)), sign (fun _ => none) fun _ => none)
  | d + 1 => (chain sumK (chain prodK (sign (lev d).1 (lev d).2)), sign (lev d).1 (lev d).2)
/-- the sum, and the sign, one level within -/
def inS : Nat → PR
  | 0 => fun _ => none
  | d + 1 => (lev d).1
def inG : Nat → PR
  | 0 => fun _ => none
  | d + 1 => (lev d).2
def rdSum (d : Nat) : PR := (lev d).1
def rdSign (d : Nat) : PR := (lev d).2
def rdProd (d : Nat) : PR := chain prodK (rdSign d)
def rdPart (d : Nat) : PR := part (inS d)
theorem rdSign_eq : ∀ d, rdSign d = sign (inS d) (inG d)
  | 0 => rfl
  | d + 1 => rfl
theorem rdSum_eq : ∀ d, rdSum d = chain sumK (rdProd d)
  | 0 => rfl
  | d + 1 => rfl
theorem rdSign_at (d : Nat) (l : Ts) : rdSign d l = match signK (hd l) with
  | some k => (inG d l.tail).map fun x => (.un k x.1, x.2)
  | none => rdPart d l := by rw [rdSign_eq]; rfl
def Short (p : PR) : Prop := ∀ l t r, p l = some (t, r) → r.length < l.length
theorem tail_lt {l : Ts} (h : hd l ≠ []) : l.tail.length < l.length := by
  cases l with
  | nil => exact absurd rfl h
  | cons a r => exact Nat.lt_succ_self _
theorem tail_le (l : Ts) : l.tail.length ≤ l.length := by cases l with
  | nil => exact Nat.le_refl _
  | cons a r => exact Nat.le_succ _
theorem loop_le {kf : List Nat → Option OpK} {p : PR} (hp : Short p) : ∀ (n : Nat) (t : Fm) (r : Ts) {u r'}, loopT kf p n t r = some (u, r') → r'.length ≤ r.length
  | 0, t, r, u, r', h => by cases h; exact Nat.le_refl _
  | n + 1, t, r, u, r', h => by
    unfold loopT at h
    split at h
    · cases h; exact Nat.le_refl _
    · split at h
      · cases h
      · rename_i k hk x v r1 h1
        have a1 := hp _ _ _ h1
        have a2 := loop_le hp n _ r1 h
        have := tail_le r
        omega
theorem chain_short {kf : List Nat → Option OpK} {p : PR} (hp : Short p) : Short (chain kf p) := fun l t r h => by
  unfold chain at h
  split at h
  · cases h
  · rename_i u r1 h1
    have a1 := hp _ _ _ h1
    have a2 := loop_le hp _ _ _ h
    omega
theorem close_lt {x : Option (Fm × Ts)} {t : Fm} {r : Ts} (h : close x = some (t, r)) : ∃ r', x = some (t, r') ∧ r.length < r'.length ∧ hd r' = [41] ∧ r = r'.tail := by
  unfold close at h
  split at h
  · cases h
  · rename_i u r1
    split at h
    · rename_i h1
      cases h
      exact ⟨r1, rfl, tail_lt (by rw [h1]; decide), h1, rfl⟩
    · cases h
theorem args1_lt {s : PR} (hs : Short s) {l : Ts} {t : Fm} {r : Ts} (h : args1 s l = some (t, r)) : r.length < l.length := by
  unfold args1 at h
  split at h
  · obtain ⟨r', h1, h2, _, _⟩ := close_lt h
    have := hs _ _ _ h1
    have := tail_le l
    omega
  · cases h
theorem args2_lt {s : PR} (hs : Short s) {l : Ts} {t : Fm × Fm} {r : Ts} (h : args2 s l = some (t, r)) : r.length < l.length := by
  unfold args2 at h
  split at h
  · split at h
    · cases h
    · rename_i u r1 h1
      split at h
      · split at h
        · cases h
        · rename_i w r2 h2
          split at h
          · cases h
            have a1 := hs _ _ _ h1
            have a2 := hs _ _ _ h2
            have := tail_le l
            have := tail_le r1
            have := tail_le r2
            omega
          · cases h
      · cases h
  · cases h
theorem name_ne {t : List Nat} (h : isName t = true) : t ≠ [] := fun q => by subst q; exact absurd h (by decide)
theorem int_ne {t : List Nat} (h : isInt t = true) : t ≠ [] := fun q => by subst q; exact absurd h (by decide)
theorem part_short {s : PR} (hs : Short s) : Short (part s) := fun l t r h => by
  unfold part at h
  split at h
  · obtain ⟨r', h1, h2, _, _⟩ := close_lt h
    have := hs _ _ _ h1
    have := tail_le l
    omega
  · split at h
    · rename_i f hf
      cases hx : args1 s l.tail with
      | none => rw [hx] at h; cases h
      | some x =>
        rw [hx] at h; cases h
        have := args1_lt hs hx
        have := tail_le l
        omega
    · split at h
      · rename_i f hf
        cases hx : args2 s l.tail with
        | none => rw [hx] at h; cases h
        | some x =>
          rw [hx] at h; cases h
          have := args2_lt hs hx
          have := tail_le l
          omega
      · split at h
        · rename_i hn; cases h; exact tail_lt (name_ne hn)
        · split at h
          · rename_i hn; cases h; exact tail_lt (int_ne hn)
          · cases h
theorem sign_short {s g : PR} (hs : Short s) (hg : Short g) : Short (sign s g) := fun l t r h => by
  unfold sign at h
  split at h
  · cases hx : g l.tail with
    | none => rw [hx] at h; cases h
    | some x =>
      rw [hx] at h; cases h
      have := hg _ _ _ hx
      have := tail_le l
      omega
  · exact part_short hs _ _ _ h
theorem none_short : Short fun _ => none := fun l t r h => by cases h
theorem lev_short : ∀ d, Short (lev d).1 ∧ Short (lev d).2
  | 0 => ⟨chain_short (chain_short (sign_short none_short none_short)), sign_short none_short none_short⟩
  | d + 1 => ⟨chain_short (chain_short (sign_short (lev_short d).1 (lev_short d).2)), sign_short (lev_short d).1 (lev_short d).2⟩
theorem sign_short' (d : Nat) : Short (rdSign d) := (lev_short d).2
theorem prod_short (d : Nat) : Short (rdProd d) := chain_short (sign_short' d)
theorem loop_stop {kf : List Nat → Option OpK} {p : PR} {n : Nat} {t : Fm} {r : Ts} (h : kf (hd r) = none) : loopT kf p n t r = some (t, r) := by
  cases n with
  | zero => rfl
  | succ n => unfold loopT; rw [h]
theorem loop_go {kf : List Nat → Option OpK} {p : PR} {n : Nat} {t : Fm} {r : Ts} {k : OpK} (h : kf (hd r) = some k) : loopT kf p (n + 1) t r = match p r.tail with
  | none => none
  | some (u, r') => loopT kf p n (.op k t u) r' := by
  conv => lhs; unfold loopT
  rw [h]
end Rd
end Sk
set_option Elab.async false
set_option linter.all false
set_option maxRecDepth 100000
set_option maxHeartbeats 1000000
namespace Sk
namespace Rd
def OpK.sg : OpK → List Nat | .add => [43] | .sub => [45] | .mul => [42] | .up => [60, 60] | .down => [62, 62]
def UnK.sg : UnK → List Nat | .neg => [45] | .pow => [50, 94]
def FnA.sg : FnA → List Nat | .len => [108, 101, 110] | .low => [108, 111, 119] | .abs => [97, 98, 115] | .tower => [116, 111, 119, 101, 114]
def FnB.sg : FnB → List Nat | .rem => [114, 101, 109] | .bit => [98, 105, 116] | .min => [109, 105, 110] | .max => [109, 97, 120]
def opR : OpK → Nat | .add => 1 | .sub => 1 | _ => 2
def rank : Fm → Nat
  | .op k _ _ => opR k
  | .un _ _ => 3
  | _ => 4
/-- the least ranks of operands -/
structure Least where
  l : Nat → Nat
  r : Nat → Nat
  u : UnK → Nat
structure Least.Ok (e : Least) : Prop where
  l : ∀ n, n ≤ e.l n
  r : ∀ n, n + 1 ≤ e.r n
  u : ∀ k, 3 ≤ e.u k
def par (b : Bool) (l : Ts) : Ts := if b then [40] :: (l ++ [[41]]) else l
/-- the tokens of a tree; num: the text of a number -/
def pt (num : Nat → List Nat) (e : Least) : Fm → Ts
  | .int n => [num n]
  | .name s => [s]
  | .un k a => UnK.sg k :: par (decide (rank a < e.u k)) (pt num e a)
  | .op k a b => par (decide (rank a < e.l (opR k))) (pt num e a) ++ OpK.sg k :: par (decide (rank b < e.r (opR k))) (pt num e b)
  | .fna f a => FnA.sg f :: [40] :: (pt num e a ++ [[41]])
  | .fnb f a b => FnB.sg f :: [40] :: (pt num e a ++ [44] :: (pt num e b ++ [[41]]))
def pl (b : Bool) (n : Nat) : Nat := if b then n + 1 else n
/-- how many levels its text has -/
def lv (e : Least) : Fm → Nat
  | .int _ => 0
  | .name _ => 0
  | .un k a => 1 + pl (decide (rank a < e.u k)) (lv e a)
  | .op k a b => max (pl (decide (rank a < e.l (opR k))) (lv e a)) (pl (decide (rank b < e.r (opR k))) (lv e b))
  | .fna f a => 1 + lv e a
  | .fnb f a b => 1 + max (lv e a) (lv e b)
/-- names and numbers as formulas have them -/
def fine (num : Nat → List Nat) : Fm → Prop
  | .int n => isInt (num n) = true ∧ natOf (num n) = n
  | .name s => isName s = true
  | .un _ a => fine num a
  | .op _ a b => fine num a ∧ fine num b
  | .fna _ a => fine num a
  | .fnb _ a b => fine num a ∧ fine num b
theorem loop_fuel {kf : List Nat → Option OpK} {p : PR} (hp : Short p) (h0 : kf [] = none) : ∀ (n : Nat) (t : Fm) (r : Ts) (n' : Nat), r.length ≤ n → r.length ≤ n' → loopT kf p n t r = loopT kf p n' t r
  | 0, t, r, n', h, h' => by
    have : r = [] := List.length_eq_zero_iff.mp (by omega)
    subst this
    rw [loop_stop (by exact h0), loop_stop (by exact h0)]
  | n + 1, t, r, n', h, h' => by
    cases hk : kf (hd r) with
    | none => rw [loop_stop hk, loop_stop hk]
    | some k =>
      have hne : hd r ≠ [] := fun q => by rw [q, h0] at hk; cases hk
      have := tail_lt hne
      obtain ⟨n', rfl⟩ : ∃ i, n' = i + 1 := ⟨n' - 1, by omega⟩
      rw [loop_go hk, loop_go hk]
      cases hx : p r.tail with
      | none => rfl
      | some x =>
        obtain ⟨u, r'⟩ := x
        have := hp _ _ _ hx
        exact loop_fuel hp h0 n _ r' n' (by omega) (by omega)
def loopS (m : Nat) (t : Fm) (r : Ts) : Option (Fm × Ts) := loopT sumK (rdProd m) r.length t r
def loopP (m : Nat) (t : Fm) (r : Ts) : Option (Fm × Ts) := loopT prodK (rdSign m) r.length t r
theorem loopS_stop {m : Nat} {t : Fm} {r : Ts} (h : sumK (hd r) = none) : loopS m t r = some (t, r) := loop_stop h
theorem loopP_stop {m : Nat} {t : Fm} {r : Ts} (h : prodK (hd r) = none) : loopP m t r = some (t, r) := loop_stop h
theorem loopS_go {m : Nat} {t u : Fm} {k : OpK} {s : List Nat} {r r' : Ts} (h : sumK s = some k) (hu : rdProd m r = some (u, r')) : loopS m t (s :: r) = loopS m (.op k t u) r' := by
  show loopT sumK (rdProd m) (r.length + 1) t (s :: r) = _
  rw [loop_go (show sumK (hd (s :: r)) = some k from h)]
  show (match rdProd m r with | none => none | some (u, r') => loopT sumK (rdProd m) r.length (.op k t u) r') = _
  rw [hu]
  have := prod_short m _ _ _ hu
  exact loop_fuel (prod_short m) rfl _ _ _ _ (by omega) (Nat.le_refl _)
theorem loopP_go {m : Nat} {t u : Fm} {k : OpK} {s : List Nat} {r r' : Ts} (h : prodK s = some k) (hu : rdSign m r = some (u, r')) : loopP m t (s :: r) = loopP m (.op k t u) r' := by
  show loopT prodK (rdSign m) (r.length + 1) t (s :: r) = _
  rw [loop_go (show prodK (hd (s :: r)) = some k from h)]
  show (match rdSign m r with | none => none | some (u, r') => loopT prodK (rdSign m) r.length (.op k t u) r') = _
  rw [hu]
  have := sign_short' m _ _ _ hu
  exact loop_fuel (sign_short' m) rfl _ _ _ _ (by omega) (Nat.le_refl _)
theorem rdSum_of {m : Nat} {l r : Ts} {t : Fm} (h : rdProd m l = some (t, r)) : rdSum m l = loopS m t r := by
  rw [rdSum_eq]; unfold chain; rw [h]; rfl
theorem rdProd_of {m : Nat} {l r : Ts} {t : Fm} (h : rdSign m l = some (t, r)) : rdProd m l = loopP m t r := by
  unfold rdProd chain; rw [h]; rfl
/-- what a text that stands for a tree does at each of the three ways -/
structure Txt (m : Nat) (t : Fm) (rk : Nat) (l : Ts) : Prop where
  s : ∀ r, prodK (hd r) = none → rdSum m (l ++ r) = loopS m t r
  p : 2 ≤ rk → ∀ r, rdProd m (l ++ r) = loopP m t r
  g : 3 ≤ rk → ∀ r, rdSign m (l ++ r) = some (t, r)
theorem Txt.of_g {m : Nat} {t : Fm} {rk : Nat} {l : Ts} (h : ∀ r, rdSign m (l ++ r) = some (t, r)) : Txt m t rk l :=
  ⟨fun r hr => rdSum_of (by rw [rdProd_of (h r)]; exact loopP_stop hr), fun _ r => rdProd_of (h r), fun _ => h⟩
theorem Txt.of_p {m : Nat} {t : Fm} {l : Ts} (h : ∀ r, rdProd m (l ++ r) = loopP m t r) : Txt m t 2 l :=
  ⟨fun r hr => rdSum_of (by rw [h r]; exact loopP_stop hr), fun _ => h, fun q => by omega⟩
theorem Txt.prod {m : Nat} {t : Fm} {rk : Nat} {l : Ts} (h : Txt m t rk l) (h2 : 2 ≤ rk) {r : Ts} (hr : prodK (hd r) = none) : rdProd m (l ++ r) = some (t, r) := by rw [h.p h2, loopP_stop hr]
theorem Txt.sum {m : Nat} {t : Fm} {rk : Nat} {l : Ts} (h : Txt m t rk l) {r : Ts} (hs : sumK (hd r) = none) (hr : prodK (hd r) = none) : rdSum m (l ++ r) = some (t, r) := by rw [h.s r hr, loopS_stop hs]
/-- in parentheses -/
theorem Txt.par {m : Nat} {t : Fm} {rk : Nat} {l : Ts} (h : Txt m t rk l) (rk' : Nat) : Txt (m + 1) t rk' ([40] :: (l ++ [[41]])) := .of_g fun r => by
  rw [rdSign_at]
  show (rdPart (m + 1) ([40] :: (l ++ [[41]] ++ r))) = _
  show part (rdSum m) ([40] :: (l ++ [[41]] ++ r)) = _
  unfold part
  rw [if_pos (show hd ([40] :: (l ++ [[41]] ++ r)) = [40] from rfl)]
  show close (rdSum m (l ++ [[41]] ++ r)) = _
  rw [List.append_assoc, h.sum (r := [[41]] ++ r) rfl rfl]
  rfl
theorem signK_word {t : List Nat} (h : isName t = true ∨ isInt t = true ∨ isFn t = true) : signK t = none := by
  unfold signK
  by_cases h1 : t = [45]
  · subst h1; exact absurd h (by decide)
  by_cases h2 : t = [50, 94]
  · subst h2; exact absurd h (by decide)
  rw [if_neg h1, if_neg h2]
theorem paren_word {t : List Nat} (h : isName t = true ∨ isInt t = true ∨ isFn t = true) : t ≠ [40] := fun q => by subst q; exact absurd h (by decide)
theorem name_fn {t : List Nat} (h : isName t = true) : fnA t = none ∧ fnB t = none := by
  have hn : isName t = (!(isFn t || decide (t ∈ kws)) && (decide (1 ≤ t.length ∧ t.length ≤ 4) && t.all fun c => decide (c ∈ small))) := rfl
  rw [hn, Bool.and_eq_true] at h
  have h1 := h.1
  unfold isFn at h1
  cases hA : fnA t with
  | some f => rw [hA] at h1; simp at h1
  | none =>
    cases hB : fnB t with
    | some f => rw [hA, hB] at h1; simp at h1
    | none => exact ⟨rfl, rfl⟩
theorem int_fn {t : List Nat} (h : isInt t = true) : fnA t = none ∧ fnB t = none ∧ isName t = false := by
  have hi : isInt t = (!(decide (t.take 1 = [48]) && !decide (t = [48])) && (decide (1 ≤ t.length ∧ t.length ≤ 18) && t.all fun c => decide (c ∈ Tk.digits))) := rfl
  rw [hi, Bool.and_eq_true, Bool.and_eq_true, decide_eq_true_eq] at h
  obtain ⟨_, ⟨h1, h2⟩, h3⟩ := h
  cases t with
  | nil => exact absurd h1 (by decide)
  | cons c r =>
    have hc : c ∈ Tk.digits := of_decide_eq_true (List.all_eq_true.mp h3 c List.mem_cons_self)
    have hne : ∀ d ∈ small, c ≠ d := fun d hd q => by subst q; revert hc hd; unfold Tk.digits small; simp only [List.mem_cons, List.not_mem_nil, or_false]; omega
    have cne : ∀ {d : Nat} {u : List Nat}, d ∈ small → c :: r ≠ d :: u := fun hd q => hne _ hd (List.cons.inj q).1
    refine ⟨?_, ?_, ?_⟩
    · unfold fnA
      rw [if_neg (cne (by decide)), if_neg (cne (by decide)), if_neg (cne (by decide)), if_neg (cne (by decide))]
    · unfold fnB
      rw [if_neg (cne (by decide)), if_neg (cne (by decide)), if_neg (cne (by decide)), if_neg (cne (by decide))]
    · have hn : isName (c :: r) = (!(isFn (c :: r) || decide ((c :: r) ∈ kws)) && (decide (1 ≤ (c :: r).length ∧ (c :: r).length ≤ 4) && (c :: r).all fun c => decide (c ∈ small))) := rfl
      rw [hn, List.all_cons, show decide (c ∈ small) = false from decide_eq_false fun q => hne c q rfl]
      simp
theorem Txt.name {m : Nat} {s : List Nat} (h : isName s = true) : Txt m (.name s) 4 [s] := .of_g fun r => by
  rw [rdSign_at, show hd ([s] ++ r) = s from rfl, signK_word (.inl h)]
  show part (inS m) (s :: r) = _
  unfold part
  rw [show hd (s :: r) = s from rfl, if_neg (paren_word (.inl h)), (name_fn h).1, (name_fn h).2]
  dsimp only
  rw [if_pos h]; rfl
theorem Txt.int {m : Nat} {s : List Nat} {n : Nat} (h : isInt s = true) (hn : natOf s = n) : Txt m (.int n) 4 [s] := .of_g fun r => by
  rw [rdSign_at, show hd ([s] ++ r) = s from rfl, signK_word (.inr (.inl h))]
  show part (inS m) (s :: r) = _
  unfold part
  obtain ⟨h1, h2, h3⟩ := int_fn h
  rw [show hd (s :: r) = s from rfl, if_neg (paren_word (.inr (.inl h))), h1, h2]
  dsimp only
  rw [if_neg (by rw [h3]; decide), if_pos h, hn]; rfl
theorem Txt.fna {m : Nat} {f : FnA} {t : Fm} {rk : Nat} {l : Ts} (h : Txt m t rk l) : Txt (m + 1) (.fna f t) 4 (FnA.sg f :: [40] :: (l ++ [[41]])) := .of_g fun r => by
  have e : rdSign (m + 1) ((FnA.sg f :: [40] :: (l ++ [[41]])) ++ r) = part (rdSum m) (FnA.sg f :: [40] :: (l ++ [[41]] ++ r)) := by
    rw [rdSign_at, show signK (hd ((FnA.sg f :: [40] :: (l ++ [[41]])) ++ r)) = none from by cases f <;> rfl]
    rfl
  rw [e]
  unfold part
  rw [if_neg (show hd (FnA.sg f :: [40] :: (l ++ [[41]] ++ r)) ≠ [40] from (by cases f <;> decide : FnA.sg f ≠ [40])), show fnA (hd (FnA.sg f :: [40] :: (l ++ [[41]] ++ r))) = some f from by cases f <;> rfl]
  show (args1 (rdSum m) ([40] :: (l ++ [[41]] ++ r))).map _ = _
  unfold args1
  rw [if_pos (show hd ([40] :: (l ++ [[41]] ++ r)) = [40] from rfl)]
  show (close (rdSum m (l ++ [[41]] ++ r))).map _ = _
  rw [List.append_assoc, h.sum (r := [[41]] ++ r) rfl rfl]
  rfl
theorem Txt.fnb {m : Nat} {f : FnB} {t u : Fm} {rk rk' : Nat} {l l' : Ts} (h : Txt m t rk l) (h' : Txt m u rk' l') : Txt (m + 1) (.fnb f t u) 4 (FnB.sg f :: [40] :: (l ++ [44] :: (l' ++ [[41]]))) := .of_g fun r => by
  have e : rdSign (m + 1) ((FnB.sg f :: [40] :: (l ++ [44] :: (l' ++ [[41]]))) ++ r) = part (rdSum m) (FnB.sg f :: [40] :: (l ++ [44] :: (l' ++ [[41]]) ++ r)) := by
    rw [rdSign_at, show signK (hd ((FnB.sg f :: [40] :: (l ++ [44] :: (l' ++ [[41]]))) ++ r)) = none from by cases f <;> rfl]
    rfl
  rw [e]
  unfold part
  rw [if_neg (show hd (FnB.sg f :: [40] :: (l ++ [44] :: (l' ++ [[41]]) ++ r)) ≠ [40] from (by cases f <;> decide : FnB.sg f ≠ [40])), show fnA (hd (FnB.sg f :: [40] :: (l ++ [44] :: (l' ++ [[41]]) ++ r))) = none from by cases f <;> rfl, show fnB (hd (FnB.sg f :: [40] :: (l ++ [44] :: (l' ++ [[41]]) ++ r))) = some f from by cases f <;> rfl]
  show (args2 (rdSum m) ([40] :: (l ++ [44] :: (l' ++ [[41]]) ++ r))).map _ = _
  unfold args2
  rw [if_pos (show hd ([40] :: (l ++ [44] :: (l' ++ [[41]]) ++ r)) = [40] from rfl)]
  show (match rdSum m (l ++ [44] :: (l' ++ [[41]]) ++ r) with | none => none | some (t, r) => if hd r = [44] then (match rdSum m r.tail with | none => none | some (u, r') => if hd r' = [41] then some ((t, u), r'.tail) else none) else none : Option ((Fm × Fm) × Ts)).map _ = _
  rw [List.append_assoc, h.sum (r := [44] :: (l' ++ [[41]]) ++ r) rfl rfl]
  show (match rdSum m (l' ++ [[41]] ++ r) with | none => none | some (u, r') => if hd r' = [41] then some ((t, u), r'.tail) else none : Option ((Fm × Fm) × Ts)).map _ = _
  rw [List.append_assoc, h'.sum (r := [[41]] ++ r) rfl rfl]
  rfl
theorem Txt.un {m : Nat} {k : UnK} {t : Fm} {rk : Nat} {l : Ts} (h : Txt m t rk l) (h3 : 3 ≤ rk) : Txt (m + 1) (.un k t) 3 (UnK.sg k :: l) := .of_g fun r => by
  rw [rdSign_at, show signK (hd ((UnK.sg k :: l) ++ r)) = some k from by cases k <;> rfl]
  show (rdSign m (l ++ r)).map _ = _
  rw [h.g h3]
  rfl
theorem Txt.op1 {m : Nat} {k : OpK} {t u : Fm} {rk rk' : Nat} {l l' : Ts} (hk : opR k = 1) (h : Txt m t rk l) (h' : Txt m u rk' l') (h2 : 2 ≤ rk') : Txt m (.op k t u) 1 (l ++ OpK.sg k :: l') :=
  ⟨fun r hr => by
    have hs : sumK (OpK.sg k) = some k := by cases k <;> first | rfl | cases hk
    have hp : prodK (OpK.sg k) = none := by cases k <;> first | rfl | cases hk
    rw [List.append_assoc, h.s _ (show prodK (hd ((OpK.sg k :: l') ++ r)) = none from hp)]
    exact loopS_go hs (h'.prod h2 hr), fun q => by omega, fun q => by omega⟩
theorem Txt.op2 {m : Nat} {k : OpK} {t u : Fm} {rk rk' : Nat} {l l' : Ts} (hk : opR k = 2) (h : Txt m t rk l) (h1 : 2 ≤ rk) (h' : Txt m u rk' l') (h2 : 3 ≤ rk') : Txt m (.op k t u) 2 (l ++ OpK.sg k :: l') := .of_p fun r => by
  have hs : prodK (OpK.sg k) = some k := by cases k <;> first | rfl | cases hk
  rw [List.append_assoc, h.p h1]
  exact loopP_go hs (h'.g h2 r)
/-- a tree's text is read as the tree -/
theorem txt_par {num : Nat → List Nat} {e : Least} {t : Fm} {m n : Nat} (h : ∀ m, lv e t ≤ m → Txt m t (rank t) (pt num e t)) (hm : pl (decide (rank t < n)) (lv e t) ≤ m) : ∃ rk, n ≤ rk ∧ Txt m t rk (par (decide (rank t < n)) (pt num e t)) := by
  by_cases q : rank t < n
  · rw [decide_eq_true q] at hm ⊢
    obtain ⟨m, rfl⟩ : ∃ i, m = i + 1 := ⟨m - 1, by unfold pl at hm; rw [if_pos rfl] at hm; omega⟩
    refine ⟨n, Nat.le_refl _, ?_⟩
    exact (h m (by unfold pl at hm; rw [if_pos rfl] at hm; omega)).par n
  · rw [decide_eq_false q] at hm ⊢
    exact ⟨rank t, by omega, h m hm⟩
theorem pt_txt {num : Nat → List Nat} {e : Least} (he : e.Ok) : ∀ (t : Fm), fine num t → ∀ m, lv e t ≤ m → Txt m t (rank t) (pt num e t)
  | .int n, hf, m, _ => .int hf.1 hf.2
  | .name s, hf, m, _ => .name hf
  | .un k a, hf, m, hm => by
    obtain ⟨m, rfl⟩ : ∃ i, m = i + 1 := ⟨m - 1, by unfold lv at hm; omega⟩
    obtain ⟨rk, h1, h2⟩ := txt_par (num := num) (n := e.u k) (fun m h => pt_txt he a hf m h) (show pl (decide (rank a < e.u k)) (lv e a) ≤ m by unfold lv at hm; omega)
    exact h2.un (Nat.le_trans (he.u k) h1)
  | .op k a b, hf, m, hm => by
    have hm : max (pl (decide (rank a < e.l (opR k))) (lv e a)) (pl (decide (rank b < e.r (opR k))) (lv e b)) ≤ m := hm
    obtain ⟨rk, h1, h2⟩ := txt_par (num := num) (n := e.l (opR k)) (fun m h => pt_txt he a hf.1 m h) (show _ ≤ m by omega)
    obtain ⟨rk', h3, h4⟩ := txt_par (num := num) (n := e.r (opR k)) (fun m h => pt_txt he b hf.2 m h) (show _ ≤ m by omega)
    have l1 := he.l (opR k)
    have l2 := he.r (opR k)
    rcases (show opR k = 1 ∨ opR k = 2 by cases k <;> simp [opR]) with q | q
    · show Txt m (.op k a b) (opR k) _
      have this : Txt m (.op k a b) 1 (pt num e (.op k a b)) := Txt.op1 (k := k) q h2 h4 (by omega)
      rw [q]; exact this
    · show Txt m (.op k a b) (opR k) _
      have this : Txt m (.op k a b) 2 (pt num e (.op k a b)) := Txt.op2 (k := k) q h2 (by omega) h4 (by omega)
      rw [q]; exact this
  | .fna f a, hf, m, hm => by
    obtain ⟨m, rfl⟩ : ∃ i, m = i + 1 := ⟨m - 1, by unfold lv at hm; omega⟩
    exact (pt_txt he a hf m (by unfold lv at hm; omega)).fna
  | .fnb f a b, hf, m, hm => by
    obtain ⟨m, rfl⟩ : ∃ i, m = i + 1 := ⟨m - 1, by unfold lv at hm; omega⟩
    exact (pt_txt he a hf.1 m (by unfold lv at hm; omega)).fnb (pt_txt he b hf.2 m (by unfold lv at hm; omega))
/-- the whole of it -/
theorem pt_read {num : Nat → List Nat} {e : Least} (he : e.Ok) {t : Fm} (hf : fine num t) (hl : lv e t ≤ 30) : rdSum 30 (pt num e t) = some (t, []) := by
  have := (pt_txt (num := num) he t hf 30 hl).sum (r := []) rfl rfl
  rw [List.append_nil] at this
  exact this
end Rd
end Sk
set_option Elab.async false
set_option linter.all false
set_option maxRecDepth 100000
set_option maxHeartbeats 1000000
namespace Sk
namespace Rd
open Tk
abbrev dgT (n : Nat) : List Nat := TL.numL n
theorem dgT_head : ∀ (k n : Nat), n < k → n ≠ 0 → (dgT n).take 1 ≠ [48]
  | 0, n, h, _ => by omega
  | k + 1, n, h, h0 => by
    by_cases q : n < 10
    · rw [dgT, TL.numL_lt q]
      intro e
      have := (List.cons.inj e).1
      omega
    · rw [dgT, TL.numL_step (by omega)]
      have ih := dgT_head k (n / 10) (by omega) (by omega)
      have hne := TL.numL_ne (n / 10)
      cases e : TL.numL (n / 10) with
      | nil => exact absurd e hne
      | cons a r =>
        unfold dgT at ih
        rw [e] at ih
        exact ih
theorem dig_mem {c : Nat} (h : 48 ≤ c ∧ c ≤ 57) : c ∈ Tk.digits := by
  unfold Tk.digits
  simp only [List.mem_cons, List.not_mem_nil, or_false]; omega
theorem dgT_int {n : Nat} (h : n < 10 ^ 18) : isInt (dgT n) = true ∧ natOf (dgT n) = n := by
  refine ⟨?_, TL.numL_val n⟩
  have hi : isInt (dgT n) = (!(decide ((dgT n).take 1 = [48]) && !decide (dgT n = [48])) && (decide (1 ≤ (dgT n).length ∧ (dgT n).length ≤ 18) && (dgT n).all fun c => decide (c ∈ Tk.digits))) := rfl
  rw [hi, Bool.and_eq_true, Bool.and_eq_true, decide_eq_true_eq]
  refine ⟨?_, ⟨List.length_pos_iff.mpr (TL.numL_ne n), TL.numL_len (by omega) h⟩, List.all_eq_true.mpr fun c hc => decide_eq_true (dig_mem (TL.numL_digits n c hc))⟩
  by_cases h0 : n = 0
  · subst h0; decide +kernel
  · rw [decide_eq_false (dgT_head (n + 1) n (Nat.lt_succ_self n) h0)]; rfl
abbrev sp (g : Nat) : List Nat := List.replicate g 32
def parT (b : Bool) (l : List Nat) : List Nat := if b then 40 :: (l ++ [41]) else l
def ftx (num : Nat → List Nat) (e : Least) (g : Nat) : Fm → List Nat
  | .int n => num n
  | .name s => s
  | .un k a => UnK.sg k ++ parT (decide (rank a < e.u k)) (ftx num e g a)
  | .op k a b => parT (decide (rank a < e.l (opR k))) (ftx num e g a) ++ sp g ++ OpK.sg k ++ sp g ++ parT (decide (rank b < e.r (opR k))) (ftx num e g b)
  | .fna f a => FnA.sg f ++ [40] ++ ftx num e g a ++ [41]
  | .fnb f a b => FnB.sg f ++ [40] ++ ftx num e g a ++ [44] ++ sp g ++ ftx num e g b ++ [41]
/-- an operand may begin behind it -/
def clrS (ts : Ts) : Prop := ∀ u ∈ ts.getLast?, ∀ c ∈ letters ++ digits ++ [45, 40], cont u c = false
/-- an operand is behind it -/
def clrE (ts : Ts) : Prop := ∀ u ∈ ts.getLast?, ∀ c ∈ [43, 45, 42, 60, 62, 41, 44, 40], cont u c = false
theorem clrS_of {ts : Ts} {u : List Nat} (h : ∀ c ∈ letters ++ digits ++ [45, 40], cont u c = false) : clrS (ts ++ [u]) := fun v hv => by
  rw [List.getLast?_append, List.getLast?_singleton] at hv
  cases hv; exact h
theorem clrE_of {ts : Ts} {u : List Nat} (h : ∀ c ∈ [43, 45, 42, 60, 62, 41, 44, 40], cont u c = false) : clrE (ts ++ [u]) := fun v hv => by
  rw [List.getLast?_append, List.getLast?_singleton] at hv
  cases hv; exact h
theorem clrS_nil : clrS [] := fun u h => by cases h
/-- a word: of letters or of digits -/
def word (u : List Nat) : Prop := (u ≠ [] ∧ ∀ c ∈ u, isL c = true) ∨ (u ≠ [] ∧ ∀ c ∈ u, isD c = true)
theorem word_good {u : List Nat} (h : word u) : good u := .inr h
theorem word_head {u : List Nat} (h : word u) : ∀ c ∈ u.head?, c ∈ letters ++ digits ++ [45, 40] := fun c hc => by
  have hm : c ∈ u := List.mem_of_mem_head? hc
  rcases h with ⟨_, h⟩ | ⟨_, h⟩
  · exact List.mem_append_left _ (List.mem_append_left _ (of_decide_eq_true (h c hm)))
  · exact List.mem_append_left _ (List.mem_append_right _ (of_decide_eq_true (h c hm)))
theorem word_clrE {ts : Ts} {u : List Nat} (h : word u) : clrE (ts ++ [u]) := clrE_of fun c hc => by
  have hcl : isL c = false ∧ isD c = false ∧ c ≠ 94 := by
    have : ∀ c ∈ [43, 45, 42, 60, 62, 41, 44, 40], isL c = false ∧ isD c = false ∧ c ≠ 94 := by decide
    exact this c hc
  unfold cont
  have hz : ∀ z ∈ u, decide (z ∈ [60, 62, 61, 33]) = false := fun z hz => by
    have : ∀ w ∈ [60, 62, 61, 33], isL w = false ∧ isD w = false := by decide
    refine decide_eq_false fun q => ?_
    rcases h with ⟨_, h⟩ | ⟨_, h⟩
    · have := (this z q).1; rw [h z hz] at this; cases this
    · have := (this z q).2; rw [h z hz] at this; cases this
  cases e : u.getLast? with
  | none => simp [hcl.2.2]
  | some z => simp [hcl.1, hcl.2.1, hcl.2.2]; intro q; have := hz z (List.mem_of_mem_getLast? e); simp at this; omega
theorem fin_name {s : List Nat} (h : isName s = true) : word s := by
  have hn : isName s = (!(isFn s || decide (s ∈ kws)) && (decide (1 ≤ s.length ∧ s.length ≤ 4) && s.all fun c => decide (c ∈ small))) := rfl
  rw [hn, Bool.and_eq_true, Bool.and_eq_true, decide_eq_true_eq] at h
  refine .inl ⟨fun q => by subst q; exact absurd h.2.1.1 (by decide), fun c hc => ?_⟩
  have := of_decide_eq_true (List.all_eq_true.mp h.2.2 c hc)
  have sub : ∀ c ∈ small, isL c = true := by decide
  exact sub c this
theorem fin_int {s : List Nat} (h : isInt s = true) : word s := by
  have hi : isInt s = (!(decide (s.take 1 = [48]) && !decide (s = [48])) && (decide (1 ≤ s.length ∧ s.length ≤ 18) && s.all fun c => decide (c ∈ Tk.digits))) := rfl
  rw [hi, Bool.and_eq_true, Bool.and_eq_true, decide_eq_true_eq] at h
  exact .inr ⟨fun q => by subst q; exact absurd h.2.1.1 (by decide), fun c hc => decide_eq_true (of_decide_eq_true (List.all_eq_true.mp h.2.2 c hc))⟩
theorem fna_word (f : FnA) : word (FnA.sg f) := .inl (by cases f <;> decide)
theorem fnb_word (f : FnB) : word (FnB.sg f) := .inl (by cases f <;> decide)
/-- a piece of text put behind -/
def Ext (a : Ts) (x : List Nat) : Prop := ∀ ts l g, Pre ts l → clrS ts → Pre (ts ++ a) (l ++ sp g ++ x) ∧ clrE (ts ++ a)
theorem pre_one {ts : Ts} {l t : List Nat} (g : Nat) (h : Pre ts l) (hg : good t) (hs : ∀ u ∈ ts.getLast?, ∀ c ∈ t.head?, cont u c = false) : Pre (ts ++ [t]) (l ++ sp g ++ t) := pre_snoc h hg fun _ => hs
theorem pre_on {ts : Ts} {l t : List Nat} (h : Pre ts l) (hg : good t) (hs : ∀ u ∈ ts.getLast?, ∀ c ∈ t.head?, cont u c = false) : Pre (ts ++ [t]) (l ++ t) := by
  have := pre_one 0 h hg hs
  rwa [show l ++ sp 0 = l from List.append_nil l] at this
theorem ext_word {u : List Nat} (h : word u) : Ext [u] u := fun ts l g hp hc => ⟨pre_one g hp (word_good h) fun v hv c hd => hc v hv c (word_head h c hd), word_clrE h⟩
/-- an operand, in parentheses or not -/
theorem ext_par {b : Bool} {a : Ts} {x : List Nat} (h : Ext a x) : Ext (par b a) (parT b x) := by
  cases b with
  | false => exact h
  | true =>
    intro ts l g hp hc
    have p1 := pre_one (t := [40]) g hp (.inl (by decide)) fun v hv c hd => hc v hv c (by cases hd; decide)
    obtain ⟨p2, c2⟩ := h _ _ 0 p1 (clrS_of (by decide))
    have p3 := pre_on (t := [41]) p2 (.inl (by decide)) fun v hv c hd => c2 v hv c (by cases hd; decide)
    have e1 : ts ++ par true a = ts ++ [[40]] ++ a ++ [[41]] := by unfold par; simp
    have e2 : l ++ sp g ++ parT true x = l ++ sp g ++ [40] ++ sp 0 ++ x ++ [41] := by unfold parT; simp
    rw [e1, e2]
    exact ⟨p3, clrE_of (by decide)⟩
theorem ext_un {k : UnK} {a : Ts} {x : List Nat} (h : Ext a x) : Ext (UnK.sg k :: a) (UnK.sg k ++ x) := fun ts l g hp hc => by
  have p1 := pre_one (t := UnK.sg k) g hp (.inl (by cases k <;> decide)) fun v hv c hd => hc v hv c (by cases k <;> (cases hd; decide))
  obtain ⟨p2, c2⟩ := h _ _ 0 p1 (clrS_of (by cases k <;> decide))
  have e1 : ts ++ UnK.sg k :: a = ts ++ [UnK.sg k] ++ a := by simp
  have e2 : l ++ sp g ++ (UnK.sg k ++ x) = l ++ sp g ++ UnK.sg k ++ sp 0 ++ x := by simp
  rw [e1, e2]
  exact ⟨p2, c2⟩
theorem ext_op {k : OpK} {a b : Ts} {x y : List Nat} {g' : Nat} (h : Ext a x) (h' : Ext b y) : Ext (a ++ OpK.sg k :: b) (x ++ sp g' ++ OpK.sg k ++ sp g' ++ y) := fun ts l g hp hc => by
  obtain ⟨p1, c1⟩ := h ts l g hp hc
  have p2 := pre_one (t := OpK.sg k) g' p1 (.inl (by cases k <;> decide)) fun v hv c hd => c1 v hv c (by cases k <;> (cases hd; decide))
  obtain ⟨p3, c3⟩ := h' _ _ g' p2 (clrS_of (by cases k <;> decide))
  have e1 : ts ++ (a ++ OpK.sg k :: b) = ts ++ a ++ [OpK.sg k] ++ b := by simp
  have e2 : l ++ sp g ++ (x ++ sp g' ++ OpK.sg k ++ sp g' ++ y) = l ++ sp g ++ x ++ sp g' ++ OpK.sg k ++ sp g' ++ y := by simp
  rw [e1, e2]
  exact ⟨p3, c3⟩
theorem ext_fna {u : List Nat} {a : Ts} {x : List Nat} (hu : word u) (h : Ext a x) : Ext (u :: [40] :: (a ++ [[41]])) (u ++ [40] ++ x ++ [41]) := fun ts l g hp hc => by
  obtain ⟨p1, c1⟩ := ext_word hu ts l g hp hc
  have p2 := pre_on (t := [40]) p1 (.inl (by decide)) fun v hv c hd => c1 v hv c (by cases hd; decide)
  obtain ⟨p3, c3⟩ := h _ _ 0 p2 (clrS_of (by decide))
  have p4 := pre_on (t := [41]) p3 (.inl (by decide)) fun v hv c hd => c3 v hv c (by cases hd; decide)
  have e1 : ts ++ u :: [40] :: (a ++ [[41]]) = ts ++ [u] ++ [[40]] ++ a ++ [[41]] := by simp
  have e2 : l ++ sp g ++ (u ++ [40] ++ x ++ [41]) = l ++ sp g ++ u ++ [40] ++ sp 0 ++ x ++ [41] := by simp
  rw [e1, e2]
  exact ⟨p4, clrE_of (by decide)⟩
theorem ext_fnb {u : List Nat} {a b : Ts} {x y : List Nat} {g' : Nat} (hu : word u) (h : Ext a x) (h' : Ext b y) : Ext (u :: [40] :: (a ++ [44] :: (b ++ [[41]]))) (u ++ [40] ++ x ++ [44] ++ sp g' ++ y ++ [41]) := fun ts l g hp hc => by
  obtain ⟨p1, c1⟩ := ext_word hu ts l g hp hc
  have p2 := pre_on (t := [40]) p1 (.inl (by decide)) fun v hv c hd => c1 v hv c (by cases hd; decide)
  obtain ⟨p3, c3⟩ := h _ _ 0 p2 (clrS_of (by decide))
  have p4 := pre_on (t := [44]) p3 (.inl (by decide)) fun v hv c hd => c3 v hv c (by cases hd; decide)
  obtain ⟨p5, c5⟩ := h' _ _ g' p4 (clrS_of (by decide))
  have p6 := pre_on (t := [41]) p5 (.inl (by decide)) fun v hv c hd => c5 v hv c (by cases hd; decide)
  have e1 : ts ++ u :: [40] :: (a ++ [44] :: (b ++ [[41]])) = ts ++ [u] ++ [[40]] ++ a ++ [[44]] ++ b ++ [[41]] := by simp
  have e2 : l ++ sp g ++ (u ++ [40] ++ x ++ [44] ++ sp g' ++ y ++ [41]) = l ++ sp g ++ u ++ [40] ++ sp 0 ++ x ++ [44] ++ sp g' ++ y ++ [41] := by simp
  rw [e1, e2]
  exact ⟨p6, clrE_of (by decide)⟩
theorem tx_ext {num : Nat → List Nat} {e : Least} {g : Nat} : ∀ t : Fm, fine num t → Ext (pt num e t) (ftx num e g t)
  | .int n, h => ext_word (fin_int h.1)
  | .name s, h => ext_word (fin_name h)
  | .un k a, h => ext_un (ext_par (tx_ext a h))
  | .op k a b, h => ext_op (ext_par (tx_ext a h.1)) (ext_par (tx_ext b h.2))
  | .fna f a, h => ext_fna (fna_word f) (tx_ext a h)
  | .fnb f a b, h => ext_fnb (fnb_word f) (tx_ext a h.1) (tx_ext b h.2)
/-- the tokens of a tree's text -/
theorem tx_toks {num : Nat → List Nat} {e : Least} {g i j : Nat} {t : Fm} (h : fine num t) : Toks (sp i ++ ftx num e g t ++ sp j) (some (pt num e t)) := by
  have := (tx_ext (e := e) (g := g) t h [] [] i (pre_nil 0) clrS_nil).1
  exact pre_end this j
end Rd
end Sk
set_option Elab.async false
set_option linter.all false
set_option maxRecDepth 100000
set_option maxHeartbeats 1000000
namespace Sk
open PySem L2 Evl
def FmV (K : PySem.W.Frag) (H : Hp) (v : V) (t : Fm) : Prop := Dp K H v t.data
section
variable {K : PySem.W.Frag} {H H' : Hp} {v : V} {xs : List V} {d : PyData} {ds : List PyData}
theorem dpt_out (h : Dp K H v (.tuple ds)) : ∃ a xs, v = .ref a ∧ SqT K H a xs ∧ DpAll K H xs ds := by
  cases h with
  | tup h1 h2 => exact ⟨_, _, rfl, h1, h2⟩
theorem dpa_nil (h : DpAll K H xs []) : xs = [] := by cases h; rfl
theorem dpa_cons (h : DpAll K H xs (d :: ds)) : ∃ x ys, xs = x :: ys ∧ Dp K H x d ∧ DpAll K H ys ds := by
  cases h with
  | cons h1 h2 => exact ⟨_, _, rfl, h1, h2⟩
theorem dps_out {s : Str} (h : Dp K H v (.str s)) : v = .str s := by cases h; rfl
theorem dpi_out {i : Int} (h : Dp K H v (.int i)) : v = .int i := by cases h; rfl
theorem dpt1 {d : PyData} (h : Dp K H v (.tuple [d])) : ∃ a x, v = .ref a ∧ SqT K H a [x] ∧ Dp K H x d := by
  obtain ⟨a, xs, rfl, hs, h⟩ := dpt_out h
  obtain ⟨x, ys, rfl, hx, h⟩ := dpa_cons h
  rw [dpa_nil h] at hs
  exact ⟨a, x, rfl, hs, hx⟩
theorem dpt2 {d e : PyData} (h : Dp K H v (.tuple [d, e])) : ∃ a x y, v = .ref a ∧ SqT K H a [x, y] ∧ Dp K H x d ∧ Dp K H y e := by
  obtain ⟨a, xs, rfl, hs, h⟩ := dpt_out h
  obtain ⟨x, ys, rfl, hx, h⟩ := dpa_cons h
  obtain ⟨y, zs, rfl, hy, h⟩ := dpa_cons h
  rw [dpa_nil h] at hs
  exact ⟨a, x, y, rfl, hs, hx, hy⟩
theorem dpt3 {d e f : PyData} (h : Dp K H v (.tuple [d, e, f])) : ∃ a x y z, v = .ref a ∧ SqT K H a [x, y, z] ∧ Dp K H x d ∧ Dp K H y e ∧ Dp K H z f := by
  obtain ⟨a, xs, rfl, hs, h⟩ := dpt_out h
  obtain ⟨x, ys, rfl, hx, h⟩ := dpa_cons h
  obtain ⟨y, zs, rfl, hy, h⟩ := dpa_cons h
  obtain ⟨z, us, rfl, hz, h⟩ := dpa_cons h
  rw [dpa_nil h] at hs
  exact ⟨a, x, y, z, rfl, hs, hx, hy, hz⟩
theorem dp1 {a : Addr} {x : V} {d : PyData} (hs : SqT K H a [x]) (hx : Dp K H x d) : Dp K H (.ref a) (.tuple [d]) := .tup hs (.cons hx .nil)
theorem dp2 {a : Addr} {x y : V} {d e : PyData} (hs : SqT K H a [x, y]) (hx : Dp K H x d) (hy : Dp K H y e) : Dp K H (.ref a) (.tuple [d, e]) := .tup hs (.cons hx (.cons hy .nil))
theorem dp3 {a : Addr} {x y z : V} {d e f : PyData} (hs : SqT K H a [x, y, z]) (hx : Dp K H x d) (hy : Dp K H y e) (hz : Dp K H z f) : Dp K H (.ref a) (.tuple [d, e, f]) := .tup hs (.cons hx (.cons hy (.cons hz .nil)))
/-- data without lists stays while tuples stay -/
theorem FmV.tex : ∀ {t : Fm} {v : V}, FmV K H v t → TEx H H' → FmV K H' v t
  | .int n, v, h, e => by
    obtain ⟨a, x, y, rfl, hs, hx, hy⟩ := dpt2 h
    rw [dps_out hx, dpi_out hy] at hs
    exact dp2 (tex_sqt e hs) (.str _) (.int _)
  | .name s, v, h, e => by
    obtain ⟨a, x, y, rfl, hs, hx, hy⟩ := dpt2 h
    rw [dps_out hx, dps_out hy] at hs
    exact dp2 (tex_sqt e hs) (.str _) (.str _)
  | .un k t, v, h, e => by
    obtain ⟨a, x, y, rfl, hs, hx, hy⟩ := dpt2 h
    rw [dps_out hx] at hs
    exact dp2 (tex_sqt e hs) (.str _) (FmV.tex (t := t) hy e)
  | .op k t u, v, h, e => by
    obtain ⟨a, x, y, z, rfl, hs, hx, hy, hz⟩ := dpt3 h
    rw [dps_out hx] at hs
    exact dp3 (tex_sqt e hs) (.str _) (FmV.tex (t := t) hy e) (FmV.tex (t := u) hz e)
  | .fna f t, v, h, e => by
    obtain ⟨a, x, y, z, rfl, hs, hx, hy, hz⟩ := dpt3 h
    rw [dps_out hx, dps_out hy] at hs
    obtain ⟨b, w, rfl, hs2, hw⟩ := dpt1 hz
    exact dp3 (tex_sqt e hs) (.str _) (.str _) (dp1 (tex_sqt e hs2) (FmV.tex (t := t) hw e))
  | .fnb f t u, v, h, e => by
    obtain ⟨a, x, y, z, rfl, hs, hx, hy, hz⟩ := dpt3 h
    rw [dps_out hx, dps_out hy] at hs
    obtain ⟨b, w, w', rfl, hs2, hw, hw'⟩ := dpt2 hz
    exact dp3 (tex_sqt e hs) (.str _) (.str _) (dp2 (tex_sqt e hs2) (FmV.tex (t := t) hw e) (FmV.tex (t := u) hw' e))
theorem FmV.ex {t : Fm} (h : FmV K H v t) (e : Ex H H') : FmV K H' v t := h.tex (Ex.t e)
theorem fmT {t : Fm} : MonoT (fun v H => FmV K H v t) := fun _ _ _ e h => FmV.tex h e
def Fm.kw : Fm → Str
  | .int _ => "int"
  | .name _ => "name"
  | .op k _ _ => k.w
  | .un k _ => k.w
  | .fna _ _ => "call"
  | .fnb _ _ _ => "call"
theorem fm_kw {t : Fm} (h : FmV K H v t) : ∃ a xs, v = .ref a ∧ SqT K H a (.str t.kw :: xs) := by
  cases t with
  | int n => obtain ⟨a, x, y, rfl, hs, hx, hy⟩ := dpt2 h; rw [dps_out hx] at hs; exact ⟨a, _, rfl, hs⟩
  | name n => obtain ⟨a, x, y, rfl, hs, hx, hy⟩ := dpt2 h; rw [dps_out hx] at hs; exact ⟨a, _, rfl, hs⟩
  | un k u => obtain ⟨a, x, y, rfl, hs, hx, hy⟩ := dpt2 h; rw [dps_out hx] at hs; exact ⟨a, _, rfl, hs⟩
  | op k u w => obtain ⟨a, x, y, z, rfl, hs, hx, hy, hz⟩ := dpt3 h; rw [dps_out hx] at hs; exact ⟨a, _, rfl, hs⟩
  | fna f u => obtain ⟨a, x, y, z, rfl, hs, hx, hy, hz⟩ := dpt3 h; rw [dps_out hx] at hs; exact ⟨a, _, rfl, hs⟩
  | fnb f u w => obtain ⟨a, x, y, z, rfl, hs, hx, hy, hz⟩ := dpt3 h; rw [dps_out hx] at hs; exact ⟨a, _, rfl, hs⟩
theorem fm_int {n : Nat} (h : FmV K H v (.int n)) : ∃ a, v = .ref a ∧ SqT K H a [.str "int", .int (n : Int)] := by
  obtain ⟨a, x, y, rfl, hs, hx, hy⟩ := dpt2 h; rw [dps_out hx, dpi_out hy] at hs; exact ⟨a, rfl, hs⟩
theorem fm_name {s : List Nat} (h : FmV K H v (.name s)) : ∃ a, v = .ref a ∧ SqT K H a [.str "name", vS s] := by
  obtain ⟨a, x, y, rfl, hs, hx, hy⟩ := dpt2 h; rw [dps_out hx, dps_out hy] at hs; exact ⟨a, rfl, hs⟩
theorem fm_un {k : UnK} {t : Fm} (h : FmV K H v (.un k t)) : ∃ a x, v = .ref a ∧ SqT K H a [.str k.w, x] ∧ FmV K H x t := by
  obtain ⟨a, x, y, rfl, hs, hx, hy⟩ := dpt2 h; rw [dps_out hx] at hs; exact ⟨a, y, rfl, hs, hy⟩
theorem fm_op {k : OpK} {t u : Fm} (h : FmV K H v (.op k t u)) : ∃ a x y, v = .ref a ∧ SqT K H a [.str k.w, x, y] ∧ FmV K H x t ∧ FmV K H y u := by
  obtain ⟨a, x, y, z, rfl, hs, hx, hy, hz⟩ := dpt3 h; rw [dps_out hx] at hs; exact ⟨a, y, z, rfl, hs, hy, hz⟩
theorem fm_fna {f : FnA} {t : Fm} (h : FmV K H v (.fna f t)) : ∃ a b x, v = .ref a ∧ SqT K H a [.str "call", .str f.w, .ref b] ∧ SqT K H b [x] ∧ FmV K H x t := by
  obtain ⟨a, x, y, z, rfl, hs, hx, hy, hz⟩ := dpt3 h; rw [dps_out hx, dps_out hy] at hs
  obtain ⟨b, w, rfl, hs2, hw⟩ := dpt1 hz
  exact ⟨a, b, w, rfl, hs, hs2, hw⟩
theorem fm_fnb {f : FnB} {t u : Fm} (h : FmV K H v (.fnb f t u)) : ∃ a b x y, v = .ref a ∧ SqT K H a [.str "call", .str f.w, .ref b] ∧ SqT K H b [x, y] ∧ FmV K H x t ∧ FmV K H y u := by
  obtain ⟨a, x, y, z, rfl, hs, hx, hy, hz⟩ := dpt3 h; rw [dps_out hx, dps_out hy] at hs
  obtain ⟨b, w, w', rfl, hs2, hw, hw'⟩ := dpt2 hz
  exact ⟨a, b, w, w', rfl, hs, hs2, hw, hw'⟩
end
def opsD : PyData := .tuple [.str "add", .str "sub", .str "mul", .str "up", .str "down"]
def opsV : List V := [.str "add", .str "sub", .str "mul", .str "up", .str "down"]
def OpsAt (K : PySem.W.Frag) (a : Addr) : Prop := ∀ H, Dp K H (.ref a) opsD
theorem ops_mk {K : PySem.W.Frag} {n : Nat} {a : Addr} (h : kdat K n (.ref a) = some opsD) : OpsAt K a := kdat_ref h
theorem ops_sq {K : PySem.W.Frag} {a : Addr} (h : OpsAt K a) (H : Hp) : SqT K H a opsV := by
  obtain ⟨b, xs, hb, hs, h⟩ := dpt_out (h H)
  cases hb
  obtain ⟨x1, y1, rfl, h1, h⟩ := dpa_cons h
  obtain ⟨x2, y2, rfl, h2, h⟩ := dpa_cons h
  obtain ⟨x3, y3, rfl, h3, h⟩ := dpa_cons h
  obtain ⟨x4, y4, rfl, h4, h⟩ := dpa_cons h
  obtain ⟨x5, y5, rfl, h5, h⟩ := dpa_cons h
  rw [dpa_nil h, dps_out h1, dps_out h2, dps_out h3, dps_out h4, dps_out h5] at hs
  exact hs
theorem in_opsO : ∀ k : OpK, inV (.str k.w) opsV = true := by intro k; cases k <;> decide +kernel
theorem in_opsU : ∀ k : UnK, inV (.str k.w) opsV = false := by intro k; cases k <;> decide +kernel
theorem in_opsI : inV (.str "int") opsV = false := by decide +kernel
theorem in_opsN : inV (.str "name") opsV = false := by decide +kernel
theorem in_opsC : inV (.str "call") opsV = false := by decide +kernel
theorem in_ops (t : Fm) : inV (.str t.kw) opsV = t.isOp := by
  cases t with
  | op k a b => exact in_opsO k
  | un k a => exact in_opsU k
  | int n => exact in_opsI
  | name s => exact in_opsN
  | fna f a => exact in_opsC
  | fnb f a b => exact in_opsC
def StepR (K : PySem.W.Frag) (x : OpK × Fm) : VP := fun v H => ∃ q y, v = .ref q ∧ SqT K H q [.str x.1.w, y] ∧ FmV K H y x.2
theorem stepR {K : PySem.W.Frag} (x : OpK × Fm) : MonoT (StepR K x) := fun v H H' e ⟨q, y, h1, h2, h3⟩ => ⟨q, y, h1, tex_sqt e h2, h3.tex e⟩
def UnrR (K : PySem.W.Frag) (t : Fm) : VP := fun v H => ∃ q f st ys, v = .ref q ∧ SqT K H q [f, .ref st] ∧ FmV K H f t.first ∧ SqL K H st ys ∧ ItemsR (StepR K) t.steps ys H
def pUnrolled (K : PySem.W.Frag) : V → Hp → VP → Prop := fun x H R => ∃ t : Fm, FmV K H x t ∧ t.steps.length ≤ 90000 ∧ R = UnrR K t
def sp_unrolled (K : PySem.W.Frag) : Sp := spF1 (pUnrolled K)
def t_unrolled (K : PySem.W.Frag) (a_OPERATIONS : Addr) : TS := (tSeq (tAsg (tLst tNil) (gName 1))
    (tSeq (tWhile (tTest (tOp (rIn K false) (tOp (rIxT K) (tVar 0) (tC (.int 0))) (tC (.ref a_OPERATIONS)))) (tSeq (tDrop (tBM K "list" rAppend (tVar 1) (tCons (tTup (tCons (tOp (rIxT K) (tVar 0) (tC (.int 0))) (tCons (tOp (rIxT K) (tVar 0) (tC (.int 2))) tNil))) tNil)))
    (tAsg (tOp (rIxT K) (tVar 0) (tC (.int 1))) (gName 0))))
    (tRet (tTup (tCons (tVar 0) (tCons (tRevL K (tVar 1)) tNil))))))
def RevS (K : PySem.W.Frag) (acc : List (OpK × Fm)) : VP := fun v H2 => ∃ p ys, v = .ref p ∧ SqL K H2 p ys.reverse ∧ ItemsR (StepR K) acc ys H2
theorem revS {K : PySem.W.Frag} (acc : List (OpK × Fm)) : Mono (RevS K acc) := fun v H1 H2 e ⟨p, ys, g1, g2, g3⟩ => ⟨p, ys, g1, ex_l e g2, g3.ex (fun a => (stepR a).mono) e⟩
theorem ev_inOps {K : PySem.W.Frag} {σ : L2.St} {H : Hp} {te : TE} {aO : Addr} (hO : OpsAt K aO) {t : Fm} (h : Ev te σ H (.str t.kw)) : Ev (tOp (rIn K false) te (tC (.ref aO))) σ H (.bl t.isOp) := by
  have := ev_op (r := rIn K false) h (ev_c (v := .ref aO)) (rv_isT (ops_sq hO H) rfl (by decide +kernel))
  rw [in_ops] at this
  exact this
theorem pure_unrolled {K : PySem.W.Frag} {aO : Addr} (hO : OpsAt K aO) {vs : List V} {H : Hp} {Q : VK} {E : XK} (h : sp_unrolled K vs H Q E) : t_unrolled K aO { nx := fun _ H' => Q .non H', rt := Q } (start ["tree", "steps"] vs) H := by
  obtain ⟨x, R, rfl, ⟨t, hx, hz, rfl⟩, k⟩ := h
  refine q_asgL (el_lst ea_nil (by decide)) fun p H1 hp e1 h1 => ?_
  refine q_while' (fun m σ H' => ∃ (t' : Fm) (acc : List (OpK × Fm)) (y : V) (ys : List V), σ = [some y, some (.ref p)] ∧ Ex H H' ∧ FmV K H' y t' ∧ H' p = some (.lst ys) ∧ ItemsR (StepR K) acc ys H' ∧ t'.first = t.first ∧ t.steps = t'.steps ++ acc.reverse ∧ m = t'.steps.length) t.steps.length
    ⟨t, [], x, [], rfl, e1, hx.ex e1, h1, .nil, rfl, by simp, rfl⟩ ?_
  rintro m σ' H' ⟨t', acc, y, ys, rfl, e2, hy, hl, hit, hf, hs, rfl⟩
  obtain ⟨a, zs, rfl, ha⟩ := fm_kw hy
  refine ⟨t'.isOp, et_test (ev_inOps hO (ev_atT (ev_var rfl) ev_c ha (atI_n (i := 0) rfl))), fun hb H3 e3 => ?_, fun hb H3 e3 => ?_⟩
  · cases t' with
    | int n => cases hb
    | name s => cases hb
    | un k a => cases hb
    | fna f a => cases hb
    | fnb f a b => cases hb
    | op kk u w =>
      obtain ⟨a', xu, xw, hq, hs', hu, hw⟩ := fm_op hy
      cases hq
      have hlen : acc.length ≤ 90000 := by
        have := congrArg List.length hs
        rw [List.length_append, List.length_reverse] at this
        omega
      refine q_appU (e3 p _ hl) (ev_var rfl) (eu_tup (ea_cons (ev_atT (ev_var rfl) ev_c (ex_t e3 hs') rfl) (ea_cons (ev_atT (ev_var rfl) ev_c (ex_t e3 hs') rfl) ea_nil)) (by show 2 ≤ 100000; omega)) (by rw [hit.1]; omega) fun q H4 hq e4 h4 => ?_
      have tx : TEx H' (upd H4 p (.lst (ys ++ [.ref q]))) := (Ex.t (e3.trans e4)).trans (TEx.put (e4 p _ (e3 p _ hl)))
      have hq4 : SqT K (upd H4 p (.lst (ys ++ [.ref q]))) q [.str kk.w, xw] := tex_sqt (TEx.put (e4 p _ (e3 p _ hl))) (st_of h4)
      refine s_asg (ev_atT (ev_var rfl) ev_c (tex_sqt tx hs') rfl) fun H5 e5 => ⟨u.steps.length, by show _ < (u.steps ++ [(kk, w)]).length; rw [List.length_append]; simp, u, acc ++ [(kk, w)], xu, ys ++ [.ref q], rfl, (Ex.mut (e2.trans (e3.trans e4)) hp).trans e5, (hu.tex tx).ex e5, e5 p _ upd_same, ?_, hf, ?_, rfl⟩
      · exact ((hit.tex (fun a => stepR a) tx).snoc (a := (kk, w)) ⟨q, xw, rfl, hq4, hw.tex tx⟩).ex (fun a => (stepR a).mono) e5
      · rw [hs]
        show (u.steps ++ [(kk, w)]) ++ acc.reverse = u.steps ++ (acc ++ [(kk, w)]).reverse
        rw [List.reverse_append, List.append_assoc]
        rfl
  · have h0 := steps_nil hb
    have hf2 := first_self hb
    refine s_retR (er_tup (ea_two (R := fun v H2 => FmV K H2 v t') (R' := RevS K acc) (er_var rfl fun H4 e4 => hy.ex (e3.trans e4)) fmT.mono
        (er_revL (R := fun ys H2 => ItemsR (StepR K) acc ys H2) (er_ev (ev_var rfl) fun H4 e4 => ⟨p, ys, rfl, sq_of ((e3.trans e4) p _ hl), hit.ex (fun a => (stepR a).mono) (e3.trans e4)⟩) fun ys H1 H2 e h => h.ex (fun a => (stepR a).mono) e) (revS acc))
      (fun vs H1 H2 e ⟨v, w, g1, g2, g3⟩ => ⟨v, w, g1, g2.ex e, revS acc w H1 H2 e g3⟩)
      fun vs H2 ⟨v, w, g1, _⟩ => by rw [g1]; show 2 ≤ 100000; omega) fun v H4 e4 ⟨q, vs, g1, g2, f, w, g3, g4, st, ys', g5, g6, g7⟩ => ?_
    subst g3 g5
    refine k _ _ (e2.trans (e3.trans e4)) ⟨q, f, st, ys'.reverse, g1, st_of g2, by rw [← hf, hf2]; exact g4, g6, ?_⟩
    rw [hs, h0, List.nil_append]
    exact g7.rev
end Sk
set_option Elab.async false
set_option linter.all false
set_option maxRecDepth 100000
namespace Sk
open PySem PySem.Spec PyProof.Rows L2
end Sk
set_option Elab.async false
set_option linter.all false
set_option maxRecDepth 100000
set_option maxHeartbeats 2000000
namespace L2
open PySem PySem.Spec PyProof.Rows
theorem Cx.Ok.xe {X : Cx} (ok : X.Ok) (xe : Value → Shared → Prop) : ({ X with xe := xe } : Cx).Ok :=
  ⟨ok.mod, ok.kind, ok.glob, ok.blt, ok.above, ok.inj, ok.has, ok.cab, ok.hd, ok.frames, ok.stk, ok.exf, ok.bs, ok.bsz, ok.noex, ok.exfs, ok.funs, ok.frf⟩
theorem Inv.xe {X : Cx} {pins : List (Addr × Obj)} {σ : St} {H : Hp} {s : Shared} (I : Inv X pins σ H s) (xe : Value → Shared → Prop) : Inv ({ X with xe := xe } : Cx) pins σ H s :=
  ⟨Cx.Ok.xe I.ok xe, I.os, I.bare, I.base, I.loc, I.cell, I.free, I.freeC, I.pin, I.hok, I.len⟩
end L2
set_option Elab.async false
set_option linter.all false
set_option maxRecDepth 100000
set_option maxHeartbeats 1000000
namespace Sk
open PySem L2 Evl
end Sk
set_option Elab.async false
set_option linter.all false
set_option maxRecDepth 100000
set_option maxHeartbeats 1000000
namespace Sk
open PySem L2 Evl
structure EC where
  B : Addr
  M : Addr
  N : Addr
  L : Addr
def eA (C : EC) : EK → Addr
  | .refused => C.N
  | .range => C.B
  | .large => C.L
  | .missing => C.M
def EK.w : EK → Str
  | .refused => "refused"
  | .range => "range"
  | .large => "large"
  | .missing => "missing"
end Sk
set_option Elab.async false
set_option linter.all false
set_option maxRecDepth 100000
set_option maxHeartbeats 1000000
namespace Sk
open PySem L2 Evl
theorem wtest {σ : L2.St} {H : Hp} {i : Nat} {s z : Str} {b : Bool} (h : σ[i]? = some (some (.str s))) (hb : decide (V.str s = V.str z) = b) : EvT (tTest (tOp rEq (tVar i) (tC (.str z)))) σ H b := et_test (ev_is (ev_eq (ev_var h) ev_c rfl) (congrArg V.bl hb))
theorem w_no {σ : L2.St} {H : Hp} {i : Nat} {s z : Str} {D : Ends} {tu tz : TS} (h : σ[i]? = some (some (.str s))) (hb : decide (V.str s = V.str z) = false) (k : ∀ H1, Ex H H1 → tz D σ H1) : tSeq (tIfS (tTest (tOp rEq (tVar i) (tC (.str z)))) tu tNext) tz D σ H :=
  q_when (wtest h hb) (fun z => by cases z) fun _ H1 e1 => k H1 e1
theorem w_yes {σ : L2.St} {H : Hp} {i : Nat} {s z : Str} {D : Ends} {tu tz : TS} (h : σ[i]? = some (some (.str s))) (hb : decide (V.str s = V.str z) = true) (k : ∀ H1, Ex H H1 → tu { D with nx := tz D } σ H1) : tSeq (tIfS (tTest (tOp rEq (tVar i) (tC (.str z)))) tu tNext) tz D σ H :=
  q_when (wtest h hb) (fun _ H1 e1 => k H1 e1) (fun z => by cases z)
end Sk
set_option Elab.async false
set_option linter.all false
set_option maxRecDepth 100000
set_option maxHeartbeats 1000000
namespace Sk
open PySem L2 Evl
end Sk
set_option Elab.async false
set_option linter.all false
set_option maxRecDepth 100000
set_option maxHeartbeats 1000000
namespace Sk
open PySem L2 Evl
section
variable {K : PySem.W.Frag} {B M N L : Addr}
/-- the values of names, and their errors -/
def EnvV (K : PySem.W.Frag) (H : Hp) (x y : V) (env : List Nat → Rs) : Prop := ∃ p q kvs wds, x = .ref p ∧ y = .ref q ∧ H p = some (.dK kvs) ∧ H q = some (.dK wds) ∧
  ∀ s, (∃ v n, valV kvs (Sum.inr (mkS s)) = some v ∧ env s = .ok n ∧ FtR K n v H) ∨ (valV kvs (Sum.inr (mkS s)) = none ∧ ∃ e : EK, env s = .error e ∧ (valV wds (Sum.inr (mkS s))).getD (.str "missing") = .str e.w)
theorem EnvV.ex {H H' : Hp} {x y : V} {env : List Nat → Rs} (h : EnvV K H x y env) (e : Ex H H') : EnvV K H' x y env := by
  obtain ⟨p, q, kvs, wds, rfl, rfl, h1, h2, h3⟩ := h
  refine ⟨p, q, kvs, wds, rfl, rfl, e p _ h1, e q _ h2, fun s => ?_⟩
  rcases h3 s with ⟨v, n, g1, g2, g3⟩ | g
  · exact .inl ⟨v, n, g1, g2, ftR n _ _ _ e g3⟩
  · exact .inr g
end
end Sk
set_option Elab.async false
set_option linter.all false
set_option maxRecDepth 100000
set_option maxHeartbeats 1000000
namespace Sk
open PySem L2 Evl
def ExP (p : Addr) (H H' : Hp) : Prop := ∀ a o, a ≠ p → H a = some o → H' a = some o
theorem ExP.refl (p : Addr) (H : Hp) : ExP p H H := fun _ _ _ h => h
theorem ExP.trans {p : Addr} {H H1 H2 : Hp} (a : ExP p H H1) (b : ExP p H1 H2) : ExP p H H2 := fun x o n h => b x o n (a x o n h)
theorem ExP.of {p : Addr} {H H' : Hp} (e : Ex H H') : ExP p H H' := fun a o _ h => e a o h
theorem ExP.put {p : Addr} {H : Hp} {o : HO} : ExP p H (upd H p o) := fun a u n h => by rw [upd_ne n]; exact h
theorem ExP.tex {p : Addr} {H H' : Hp} {xs : List V} (e : ExP p H H') (h : H p = some (.lst xs)) : TEx H H' := fun a o ha c => by
  by_cases hb : a = p
  · subst hb; rw [h] at ha; cases ha; exact c.elim
  · exact e a o hb ha
structure LawSt (H : Hp) (x : V) (p : Addr) (n : Int) (l : List Int) : Prop where
  row : ∃ r, x = .ref r ∧ r ≠ p ∧ H r = some (.lst (l.map V.int))
  len : l.length ≤ 4000
  bnd : ∀ z ∈ l, 0 ≤ z ∧ z < 1009
  st : H p = some (.lst [.int n])
theorem LawSt.to {H H' : Hp} {x : V} {p : Addr} {n n' : Int} {l : List Int} (h : LawSt H x p n l) (e : ExP p H H') (hp : H' p = some (.lst [.int n'])) : LawSt H' x p n' l :=
  ⟨let ⟨r, h1, h2, h3⟩ := h.row; ⟨r, h1, h2, e r _ h2 h3⟩, h.len, h.bnd, hp⟩
theorem LawSt.ex {H H' : Hp} {x : V} {p : Addr} {n : Int} {l : List Int} (h : LawSt H x p n l) (e : Ex H H') : LawSt H' x p n l := h.to (.of e) (e p _ h.st)
theorem LawSt.ints {H : Hp} {x : V} {p : Addr} {n : Int} {l : List Int} (h : LawSt H x p n l) : IntsL l x H := let ⟨r, h1, _, h3⟩ := h.row; ⟨r, h1, h3⟩
theorem LawSt.num {H : Hp} {x : V} {p : Addr} {n : Int} {l : List Int} (h : LawSt H x p n l) (k : Int) : atF l k < 1009 := atF_lt h.bnd k
def sp_law_next (K : PySem.W.Frag) : Sp := fun vs H Q _ => ∃ (x : V) (p : Addr) (n : Int) (l : List Int), vs = [x, .ref p] ∧ LawSt H x p n l ∧ ∀ H', ExP p H H' → H' p = some (.lst [.int (n + 1)]) → Q (.int (atF l (n + 1) : Int)) H'
theorem spnext_len {K : PySem.W.Frag} {vs : List V} {H : Hp} {Q : VK} {E : XK} (h : sp_law_next K vs H Q E) : vs.length = 2 := by obtain ⟨_, _, _, _, rfl, _⟩ := h; rfl
def t_law_next (K : PySem.W.Frag) : TS := (tSeq (tAsg (tOp xAdd (tOp (rIxL K) (tVar 1) (tC (.int 0))) (tC (.int 1))) (gSub (tVar 1) (tC (.int 0)) rSetL))
    (tRet (tCB xInt1 (tCons (tCall (sp_law_at K) [] E0 (tCons (tVar 0) (tCons (tOp (rIxL K) (tVar 1) (tC (.int 0))) tNil))) tNil))))
theorem ev_lat {K : PySem.W.Frag} {σ : L2.St} {H : Hp} {te tf : TE} {l : List Int} {k : Int} (h : ER te σ H (IntsL l)) (hl : l.length ≤ 4000) (hb : ∀ z ∈ l, 0 ≤ z ∧ z < 1009) (hk : Ev tf σ H (.int k)) : Ev (tCall (sp_law_at K) [] E0 (tCons te (tCons tf tNil))) σ H (.int (atF l k : Int)) :=
  ev_er (er_call2 h (intsL l) (er_is hk) monoC fun v w H1 e1 g1 g2 => ⟨l, k, hl, hb, g1, g2, rfl⟩)
theorem pure_law_next {K : PySem.W.Frag} {vs : List V} {H : Hp} {Q : VK} {E : XK} (h : sp_law_next K vs H Q E) : t_law_next K { nx := fun _ H' => Q .non H', rt := Q } (start ["row", "state"] vs) H := by
  obtain ⟨x, p, n, l, rfl, hs, k⟩ := h
  refine q_setL (l := p) (xs := [.int n]) (j := 0) (v := .int (n + 1)) hs.st (ev_add (ev_at (ev_var rfl) ev_c (sq_of hs.st) rfl) ev_c) (ev_var rfl) ev_c (by simp) fun H1 e1 => ?_
  have e2 : ExP p H (upd H1 p (.lst [.int (n + 1)])) := (ExP.of e1).trans .put
  have hs2 : LawSt (upd H1 p (.lst [.int (n + 1)])) x p (n + 1) l := hs.to e2 upd_same
  refine s_ret (ev_int1 (ev_lat (er_var rfl fun H3 e3 => intsL l _ _ _ e3 hs2.ints) hs.len hs.bnd (ev_at (ev_var rfl) ev_c (sq_of hs2.st) rfl))) fun H2 e3 => k H2 (e2.trans (.of e3)) (e3 p _ upd_same)
theorem q_next {K : PySem.W.Frag} {σ : L2.St} {H : Hp} {D : Ends} {tz : TS} {i j m : Nat} {x : V} {p : Addr} {n : Int} {l : List Int} (h0 : σ[i]? = some (some x)) (h1 : σ[j]? = some (some (.ref p))) (hs : LawSt H x p n l)
    (k : ∀ H1, ExP p H H1 → H1 p = some (.lst [.int (n + 1)]) → tz D (σ.set m (some (.int (atF l (n + 1) : Int)))) H1) : tSeq (tAsg (tCall (sp_law_next K) [] E0 (tCons (tVar i) (tCons (tVar j) tNil))) (gName m)) tz D σ H := by
  show tCall (sp_law_next K) [] E0 (tCons (tVar i) (tCons (tVar j) tNil)) σ H fun v H1 => tz D (σ.set m (some v)) H1
  exact (ea_cons (ev_var h0) (ea_cons (ev_var h1) ea_nil)) H (Ex.refl H) _ fun H2 e2 => ⟨x, p, n, l, rfl, hs.ex e2, fun H3 e3 hp => k H3 ((ExP.of e2).trans e3) hp⟩
def Fm.dp : Fm → Nat
  | .int _ => 0
  | .name _ => 0
  | .op _ a b => max a.dp b.dp + 1
  | .un _ a => a.dp + 1
  | .fna _ a => a.dp + 1
  | .fnb _ a b => max a.dp b.dp + 1
def Fm.bn (ls : List (List Nat)) : Fm → Prop
  | .int n => n ≤ 31
  | .name s => s ∈ ls
  | .op _ a b => a.bn ls ∧ b.bn ls
  | .un _ a => a.bn ls
  | .fna _ a => a.bn ls
  | .fnb _ a b => a.bn ls ∧ b.bn ls
structure NmAt (H : Hp) (x : V) (ls : List (List Nat)) (p : Addr) : Prop where
  at_ : ∃ q, x = .ref q ∧ q ≠ p ∧ H q = some (.lst (ls.map vS))
  len : ls.length ≤ 10
theorem NmAt.to {H H' : Hp} {x : V} {p : Addr} {ls : List (List Nat)} (h : NmAt H x ls p) (e : ExP p H H') : NmAt H' x ls p := ⟨let ⟨q, h1, h2, h3⟩ := h.at_; ⟨q, h1, h2, e q _ h2 h3⟩, h.len⟩
theorem NmAt.ex {H H' : Hp} {x : V} {p : Addr} {ls : List (List Nat)} (h : NmAt H x ls p) (e : Ex H H') : NmAt H' x ls p := h.to (.of e)
def sp_law_tree (K : PySem.W.Frag) (d : Nat) : Sp := fun vs H Q _ => ∃ (x y : V) (p : Addr) (n : Int) (l : List Int) (e : Nat) (ls : List (List Nat)), vs = [x, .ref p, .int (e : Int), y] ∧ LawSt H x p n l ∧ NmAt H y ls p ∧ e < d ∧
  ∀ v H' n' (t : Fm), ExP p H H' → H' p = some (.lst [.int n']) → FmV K H' v t → t.dp ≤ e → t.bn ls → Q v H'
theorem sptree_len {K : PySem.W.Frag} {d : Nat} {vs : List V} {H : Hp} {Q : VK} {E : XK} (h : sp_law_tree K d vs H Q E) : vs.length = 4 := by obtain ⟨_, _, _, _, _, _, _, rfl, _⟩ := h; rfl
theorem vac_law_tree {K : PySem.W.Frag} {vs : List V} {H : Hp} {Q : VK} {E : XK} (h : sp_law_tree K 0 vs H Q E) : False := by obtain ⟨_, _, _, _, _, _, _, _, _, _, h, _⟩ := h; exact Nat.not_lt_zero _ h
def t_law_tree (K : PySem.W.Frag) (d : Nat) : TS := (tSeq (tAsg (tCall (sp_law_next K) [] E0 (tCons (tVar 0) (tCons (tVar 1) tNil))) (gName 4))
    (tSeq (tAsg (tOp xMod (tVar 4) (tC (.int 16))) (gName 5))
    (tSeq (tIfS (tOr (tTest (tOp xLe (tVar 2) (tC (.int 0)))) (tTest (tOp xLt (tVar 5) (tC (.int 3))))) (tSeq (tIfS (tAnd (tTest (tOp xGt (tCB (rLenS K) (tCons (tVar 3) tNil)) (tC (.int 0)))) (tTest (tOp rEq (tOp xMod (tOp xFdiv (tVar 4) (tC (.int 16))) (tC (.int 2))) (tC (.int 0))))) (tRet (tTup (tCons (tC (.str "name")) (tCons (tOp (rIxL K) (tVar 3) (tOp xMod (tOp xFdiv (tVar 4) (tC (.int 32))) (tCB (rLenS K) (tCons (tVar 3) tNil)))) tNil)))) tNext)
    (tRet (tTup (tCons (tC (.str "int")) (tCons (tOp (rIxL K) (tLst (tCons (tOp xMod (tOp xFdiv (tVar 4) (tC (.int 32))) (tC (.int 10))) (tCons (tOp xFdiv (tVar 4) (tC (.int 32))) (tCons (tC (.int 0)) (tCons (tOp xAdd (tC (.int 3)) (tOp xMul (tC (.int 2)) (tOp xMod (tOp xFdiv (tVar 4) (tC (.int 32))) (tC (.int 14))))) tNil))))) (tOp xMod (tOp xFdiv (tVar 4) (tC (.int 64))) (tC (.int 4)))) tNil))))) tNext)
    (tSeq (tIfS (tTest (tOp xLt (tVar 5) (tC (.int 10)))) (tSeq (tAsg (tOp (rIxL K) (tLst (tCons (tC (.str "add")) (tCons (tC (.str "sub")) (tCons (tC (.str "mul")) (tCons (tC (.str "add")) (tCons (tC (.str "sub")) (tCons (tC (.str "up")) (tCons (tC (.str "down")) tNil)))))))) (tOp xSub (tVar 5) (tC (.int 3)))) (gName 6))
    (tSeq (tAsg (tCall (sp_law_tree K d) [] E0 (tCons (tVar 0) (tCons (tVar 1) (tCons (tOp xSub (tVar 2) (tC (.int 1))) (tCons (tVar 3) tNil))))) (gName 10))
    (tRet (tTup (tCons (tVar 6) (tCons (tVar 10) (tCons (tCall (sp_law_tree K d) [] E0 (tCons (tVar 0) (tCons (tVar 1) (tCons (tOp xSub (tVar 2) (tC (.int 1))) (tCons (tVar 3) tNil))))) tNil))))))) tNext)
    (tSeq (tIfS (tTest (tOp rEq (tVar 5) (tC (.int 10)))) (tRet (tTup (tCons (tC (.str "neg")) (tCons (tCall (sp_law_tree K d) [] E0 (tCons (tVar 0) (tCons (tVar 1) (tCons (tOp xSub (tVar 2) (tC (.int 1))) (tCons (tVar 3) tNil))))) tNil)))) tNext)
    (tSeq (tIfS (tTest (tOp rEq (tVar 5) (tC (.int 11)))) (tRet (tTup (tCons (tC (.str "pow")) (tCons (tCall (sp_law_tree K d) [] E0 (tCons (tVar 0) (tCons (tVar 1) (tCons (tOp xSub (tVar 2) (tC (.int 1))) (tCons (tVar 3) tNil))))) tNil)))) tNext)
    (tSeq (tAsg (tOp (rIxL K) (tLst (tCons (tC (.str "rem")) (tCons (tC (.str "bit")) (tCons (tC (.str "len")) (tCons (tC (.str "low")) (tCons (tC (.str "abs")) (tCons (tC (.str "min")) (tCons (tC (.str "max")) (tCons (tC (.str "tower")) tNil))))))))) (tOp xMod (tOp xFdiv (tVar 4) (tC (.int 16))) (tC (.int 8)))) (gName 6))
    (tSeq (tAsg (tOp (rIxL K) (tLst (tCons (tC (.int 2)) (tCons (tC (.int 2)) (tCons (tC (.int 1)) (tCons (tC (.int 1)) (tCons (tC (.int 1)) (tCons (tC (.int 2)) (tCons (tC (.int 2)) (tCons (tC (.int 1)) tNil))))))))) (tOp xMod (tOp xFdiv (tVar 4) (tC (.int 16))) (tC (.int 8)))) (gName 7))
    (tSeq (tAsg (tLst tNil) (gName 8))
    (tSeq (tFor (iRng1 (tCons (tVar 7) tNil)) (gName 9) (tDrop (tBM K "list" rAppend (tVar 8) (tCons (tCall (sp_law_tree K d) [] E0 (tCons (tVar 0) (tCons (tVar 1) (tCons (tOp xSub (tVar 2) (tC (.int 1))) (tCons (tVar 3) tNil))))) tNil))))
    (tRet (tTup (tCons (tC (.str "call")) (tCons (tVar 6) (tCons (tThen (tVar 8) (kTup K)) tNil)))))))))))))))
theorem x_tree {K : PySem.W.Frag} {d : Nat} {σ : L2.St} {H : Hp} {te : TE} {i j m : Nat} {x y : V} {p : Addr} {n : Int} {l : List Int} {e : Nat} {z : Int} {ls : List (List Nat)} {Q : VK} (h0 : σ[i]? = some (some x)) (h1 : σ[j]? = some (some (.ref p))) (h2 : Ev te σ H (.int z)) (hz : z = (e : Int)) (h3 : σ[m]? = some (some y))
    (hs : LawSt H x p n l) (hn : NmAt H y ls p) (hd : e < d) (k : ∀ v H' n' (t : Fm), ExP p H H' → H' p = some (.lst [.int n']) → FmV K H' v t → t.dp ≤ e → t.bn ls → Q v H') : tCall (sp_law_tree K d) [] E0 (tCons (tVar i) (tCons (tVar j) (tCons te (tCons (tVar m) tNil)))) σ H Q :=
  (ea_cons (ev_var h0) (ea_cons (ev_var h1) (ea_cons h2 (ea_cons (ev_var h3) ea_nil)))) H (Ex.refl H) _ fun H2 e2 => by
    subst hz
    exact ⟨x, y, p, n, l, e, ls, rfl, hs.ex e2, hn.ex e2, hd, fun v H3 n' t e3 hp hv h4 h5 => k v H3 n' t ((ExP.of e2).trans e3) hp hv h4 h5⟩
theorem tree_word {j : Nat} (h : j < 7) : ∃ k : OpK, ([V.str "add", .str "sub", .str "mul", .str "add", .str "sub", .str "up", .str "down"] : List V)[j]? = some (.str k.w) := by
  match j, h with
  | 0, _ => exact ⟨.add, rfl⟩
  | 1, _ => exact ⟨.sub, rfl⟩
  | 2, _ => exact ⟨.mul, rfl⟩
  | 3, _ => exact ⟨.add, rfl⟩
  | 4, _ => exact ⟨.sub, rfl⟩
  | 5, _ => exact ⟨.up, rfl⟩
  | 6, _ => exact ⟨.down, rfl⟩
  | j + 7, h => omega
theorem tree_fn {j : Nat} (h : j < 8) : ∃ (w : Str) (m : Nat), ([V.str "rem", .str "bit", .str "len", .str "low", .str "abs", .str "min", .str "max", .str "tower"] : List V)[j]? = some (.str w) ∧ ([V.int 2, .int 2, .int 1, .int 1, .int 1, .int 2, .int 2, .int 1] : List V)[j]? = some (.int (m : Int)) ∧ ((m = 1 ∧ ∃ f : FnA, w = f.w) ∨ (m = 2 ∧ ∃ f : FnB, w = f.w)) := by
  match j, h with
  | 0, _ => exact ⟨_, 2, rfl, rfl, .inr ⟨rfl, .rem, rfl⟩⟩
  | 1, _ => exact ⟨_, 2, rfl, rfl, .inr ⟨rfl, .bit, rfl⟩⟩
  | 2, _ => exact ⟨_, 1, rfl, rfl, .inl ⟨rfl, .len, rfl⟩⟩
  | 3, _ => exact ⟨_, 1, rfl, rfl, .inl ⟨rfl, .low, rfl⟩⟩
  | 4, _ => exact ⟨_, 1, rfl, rfl, .inl ⟨rfl, .abs, rfl⟩⟩
  | 5, _ => exact ⟨_, 2, rfl, rfl, .inr ⟨rfl, .min, rfl⟩⟩
  | 6, _ => exact ⟨_, 2, rfl, rfl, .inr ⟨rfl, .max, rfl⟩⟩
  | 7, _ => exact ⟨_, 1, rfl, rfl, .inl ⟨rfl, .tower, rfl⟩⟩
  | j + 8, h => omega
end Sk
set_option Elab.async false
set_option linter.all false
set_option maxRecDepth 100000
set_option maxHeartbeats 1000000
namespace Sk
open PySem L2 Evl Rd
def functionsL : List (Str × V) := [("rem", .int 2), ("bit", .int 2), ("len", .int 1), ("low", .int 1), ("abs", .int 1), ("min", .int 2), ("max", .int 2), ("tower", .int 1)]
def sumsL : List (Str × V) := [("+", .str "add"), ("-", .str "sub")]
def productsL : List (Str × V) := [("*", .str "mul"), ("<<", .str "up"), (">>", .str "down")]
def signsL : List (Str × V) := [("-", .str "neg"), ("2^", .str "pow")]
theorem lk_map {l : List (List Nat × V)} {t : List Nat} : (l.map fun p => (mkS p.1, p.2)).lookup (mkS t) = l.lookup t := by
  induction l with
  | nil => rfl
  | cons p l ih =>
    obtain ⟨a, v⟩ := p
    rw [List.map_cons, List.lookup_cons, List.lookup_cons, ih]
    have : (mkS t == mkS a) = (t == a) := by
      rw [Bool.eq_iff_iff, beq_iff_eq, beq_iff_eq]
      exact mkS_inj
    rw [this]
theorem lk_sums (t : List Nat) : sumsL.lookup (mkS t) = (sumK t).map fun k => .str k.w := by
  have e : sumsL = ([([43], .str "add"), ([45], .str "sub")] : List (List Nat × V)).map fun p => (mkS p.1, p.2) := by rfl
  rw [e, lk_map]
  unfold sumK
  by_cases h1 : t = [43]
  · subst h1; rfl
  by_cases h2 : t = [45]
  · subst h2; rfl
  rw [List.lookup_cons, List.lookup_cons, beq_false_of_ne h1, beq_false_of_ne h2, if_neg h1, if_neg h2]
  rfl
theorem lk_products (t : List Nat) : productsL.lookup (mkS t) = (prodK t).map fun k => .str k.w := by
  have e : productsL = ([([42], .str "mul"), ([60, 60], .str "up"), ([62, 62], .str "down")] : List (List Nat × V)).map fun p => (mkS p.1, p.2) := by rfl
  rw [e, lk_map]
  unfold prodK
  by_cases h1 : t = [42]
  · subst h1; rfl
  by_cases h2 : t = [60, 60]
  · subst h2; rfl
  by_cases h3 : t = [62, 62]
  · subst h3; rfl
  rw [List.lookup_cons, List.lookup_cons, List.lookup_cons, beq_false_of_ne h1, beq_false_of_ne h2, beq_false_of_ne h3, if_neg h1, if_neg h2, if_neg h3]
  rfl
theorem lk_signs (t : List Nat) : signsL.lookup (mkS t) = (signK t).map fun k => .str k.w := by
  have e : signsL = ([([45], .str "neg"), ([50, 94], .str "pow")] : List (List Nat × V)).map fun p => (mkS p.1, p.2) := by rfl
  rw [e, lk_map]
  unfold signK
  by_cases h1 : t = [45]
  · subst h1; rfl
  by_cases h2 : t = [50, 94]
  · subst h2; rfl
  rw [List.lookup_cons, List.lookup_cons, beq_false_of_ne h1, beq_false_of_ne h2, if_neg h1, if_neg h2]
  rfl
/-- of how many arguments -/
def fnN (t : List Nat) : Option Nat := if (fnA t).isSome then some 1 else if (fnB t).isSome then some 2 else none
theorem lk_fns (t : List Nat) : functionsL.lookup (mkS t) = (fnN t).map fun n => .int (n : Int) := by
  have e : functionsL = ([([114, 101, 109], .int 2), ([98, 105, 116], .int 2), ([108, 101, 110], .int 1), ([108, 111, 119], .int 1), ([97, 98, 115], .int 1), ([109, 105, 110], .int 2), ([109, 97, 120], .int 2), ([116, 111, 119, 101, 114], .int 1)] : List (List Nat × V)).map fun p => (mkS p.1, p.2) := by rfl
  rw [e, lk_map]
  by_cases h1 : t = [114, 101, 109]
  · subst h1; rfl
  by_cases h2 : t = [98, 105, 116]
  · subst h2; rfl
  by_cases h3 : t = [108, 101, 110]
  · subst h3; rfl
  by_cases h4 : t = [108, 111, 119]
  · subst h4; rfl
  by_cases h5 : t = [97, 98, 115]
  · subst h5; rfl
  by_cases h6 : t = [109, 105, 110]
  · subst h6; rfl
  by_cases h7 : t = [109, 97, 120]
  · subst h7; rfl
  by_cases h8 : t = [116, 111, 119, 101, 114]
  · subst h8; rfl
  have a : fnN t = none := by
    unfold fnN fnA fnB
    rw [if_neg h3, if_neg h4, if_neg h5, if_neg h8, if_neg h1, if_neg h2, if_neg h6, if_neg h7]
    rfl
  rw [a]
  simp only [List.lookup_cons, beq_false_of_ne h1, beq_false_of_ne h2, beq_false_of_ne h3, beq_false_of_ne h4, beq_false_of_ne h5, beq_false_of_ne h6, beq_false_of_ne h7, beq_false_of_ne h8]
  rfl
theorem lk_fn (t : List Nat) : (functionsL.lookup (mkS t)).isSome = isFn t := by
  rw [lk_fns]
  unfold fnN isFn
  cases fnA t <;> cases fnB t <;> rfl
def kwD : PyData := .tuple [.str "if", .str "else", .str "turn", .str "show"]
def kwV : List V := [.str "if", .str "else", .str "turn", .str "show"]
def KwAt (K : PySem.W.Frag) (a : Addr) : Prop := ∀ H, Dp K H (.ref a) kwD
theorem kw_mk {K : PySem.W.Frag} {n : Nat} {a : Addr} (h : kdat K n (.ref a) = some kwD) : KwAt K a := kdat_ref h
theorem kw_sq {K : PySem.W.Frag} {a : Addr} (h : KwAt K a) (H : Hp) : SqT K H a kwV := by
  obtain ⟨b, xs, hv, hs, hd⟩ := dpt_out (h H)
  cases hv
  obtain ⟨x, r, rfl, h1, hd⟩ := dpa_cons hd
  obtain ⟨y, r, rfl, h2, hd⟩ := dpa_cons hd
  obtain ⟨z, r, rfl, h3, hd⟩ := dpa_cons hd
  obtain ⟨w, r, rfl, h4, hd⟩ := dpa_cons hd
  rw [dpa_nil hd] at hs
  rw [dps_out h1, dps_out h2, dps_out h3, dps_out h4] at hs
  exact hs
theorem in_kw (t : List Nat) : inV (vS t) kwV = decide (t ∈ kws) := by
  by_cases h1 : t = [105, 102]
  · subst h1; decide +kernel
  by_cases h2 : t = [101, 108, 115, 101]
  · subst h2; decide +kernel
  by_cases h3 : t = [116, 117, 114, 110]
  · subst h3; decide +kernel
  by_cases h4 : t = [115, 104, 111, 119]
  · subst h4; decide +kernel
  have a : decide (t ∈ kws) = false := decide_eq_false (by
    unfold kws
    simp only [List.mem_cons, h1, h2, h3, h4, List.not_mem_nil, or_self, not_false_eq_true])
  rw [a]
  have ne : ∀ {u : List Nat} {s : Str}, s = mkS u → ¬ t = u → eqV (.str s) (vS t) = false := fun e n => by
    subst e
    exact decide_eq_false fun q => n (mkS_inj.mp (by first | exact V.str.inj q | exact q)).symm
  show (eqV (.str "if") (vS t) || (eqV (.str "else") (vS t) || (eqV (.str "turn") (vS t) || (eqV (.str "show") (vS t) || false)))) = false
  rw [ne (s := "if") (u := [105, 102]) rfl h1, ne (s := "else") (u := [101, 108, 115, 101]) rfl h2, ne (s := "turn") (u := [116, 117, 114, 110]) rfl h3, ne (s := "show") (u := [115, 104, 111, 119]) rfl h4]
  rfl
end Sk
set_option Elab.async false
set_option linter.all false
set_option maxRecDepth 100000
set_option maxHeartbeats 1000000
namespace Sk
open PySem L2 Evl
end Sk
set_option Elab.async false
set_option linter.all false
set_option maxRecDepth 100000
set_option maxHeartbeats 1000000
namespace Sk
open PySem L2 Evl
section
variable {K : PySem.W.Frag} {B M N L : Addr}
/-- the values of names alone -/
def EnvD (K : PySem.W.Frag) (H : Hp) (x : V) (env : List Nat → Rs) : Prop := ∃ p kvs, x = .ref p ∧ H p = some (.dK kvs) ∧ ∀ s, (∃ v n, valV kvs (Sum.inr (mkS s)) = some v ∧ env s = .ok n ∧ FtR K n v H) ∨ (valV kvs (Sum.inr (mkS s)) = none ∧ env s = .error .missing)
theorem EnvD.ex {H H' : Hp} {x : V} {env : List Nat → Rs} (h : EnvD K H x env) (e : Ex H H') : EnvD K H' x env := by
  obtain ⟨p, kvs, rfl, h1, h3⟩ := h
  refine ⟨p, kvs, rfl, e p _ h1, fun s => ?_⟩
  rcases h3 s with ⟨v, n, g1, g2, g3⟩ | g
  · exact .inl ⟨v, n, g1, g2, ftR n _ _ _ e g3⟩
  · exact .inr g
end
end Sk
set_option Elab.async false
set_option linter.all false
set_option maxRecDepth 100000
set_option maxHeartbeats 1000000
namespace Sk
open PySem L2 Evl
def txtT : T → List Nat
  | .nil => []
  | .cons s e r => (if s < 0 then 45 else 43) :: 91 :: ((if e.toL.isEmpty then [48] else txtT e) ++ 93 :: txtT r)
def tx (t : T) : List Nat := if t.toL.isEmpty then [48] else txtT t
/-- the signs are 1 and -1 all the way down -/
def T.sg : T → Prop
  | .nil => True
  | .cons s e r => (s = 1 ∨ s = -1) ∧ e.sg ∧ r.sg
theorem txtT_cons (s : Int) (e r : T) : txtT (.cons s e r) = (if s < 0 then 45 else 43) :: 91 :: (tx e ++ 93 :: txtT r) := rfl
theorem txtT_app : ∀ l l' : List (Int × T), txtT (ofL (l ++ l')) = txtT (ofL l) ++ txtT (ofL l')
  | [], l' => rfl
  | x :: l, l' => by
    show txtT (.cons x.1 x.2 (ofL (l ++ l'))) = txtT (.cons x.1 x.2 (ofL l)) ++ _
    rw [txtT_cons, txtT_cons, txtT_app l l']
    simp
/-- where the bracket that brings the depth to 0 stands -/
def cl : List Nat → Int → Option Nat
  | [], _ => none
  | c :: r, d => if c = 93 then (if d - 1 = 0 then some 0 else (cl r (d - 1)).map (· + 1)) else (cl r (if c = 91 then d + 1 else d)).map (· + 1)
end Sk
set_option Elab.async false
set_option linter.all false
set_option maxRecDepth 100000
set_option maxHeartbeats 1000000
namespace Sk
open PySem L2 Evl
def rJoinS (K : PySem.W.Frag) : V → List V → Hp → VK → Prop := fun x xs H Q => ∃ a p, ∃ ys : List Str, x = .str a ∧ xs = [.ref p] ∧ (SqL K H p (ys.map V.str) ∨ SqT K H p (ys.map V.str)) ∧ (ys.map (·.length)).sum + ys.length * a.length ≤ 16777216 ∧ Q (.str (Txt.join a ys)) H
end Sk
set_option Elab.async false
set_option linter.all false
set_option maxRecDepth 100000
set_option maxHeartbeats 1000000
namespace Sk
open PySem L2 Evl
/-- a number in its form, of a size and a height -/
structure Nm (t : T) (v : Int) (n d : Nat) : Prop where
  can : t.can
  val : t.val = v
  sz : t.size ≤ n
  ht : t.height ≤ d
theorem len_le_size : ∀ t : T, t.toL.length + 1 ≤ t.size
  | .nil => Nat.le_refl _
  | .cons s e r => by
    have h1 := len_le_size r
    have h2 := size_toL (.cons s e r)
    have h3 := size_toL r
    have h4 := height_le_size e
    rw [T.toL, List.map_cons, List.sum_cons] at h2
    dsimp only at h2
    rw [T.toL, List.length_cons]
    omega
theorem Nm.pl {t : T} {v : Int} {n d : Nat} (h : Nm t v n d) (hn : n ≤ 700) (hd : d ≤ 43) : PlOk t :=
  ⟨h.can, Nat.le_trans h.ht hd, sz_ex (by have := h.sz; omega), by have := h.sz; have := len_le_size t; omega, fun x hx => by have := h.sz; have := (mem_size hx).1; have := len_le_size x.2; omega⟩
theorem Nm.fits {t : T} {v : Int} {n d : Nat} (h : Nm t v n d) (hn : n ≤ 300) (hd : d ≤ 40) : t.fits := ⟨Nat.le_trans h.sz hn, Nat.le_trans h.ht hd⟩
theorem Nm.sm {t : T} {v : Int} {n d : Nat} (h : Nm t v n d) (hv : 0 ≤ v) (hn : n ≤ 400) (hd : d ≤ 42) : SmOk t :=
  ⟨h.can, by rw [h.val]; exact hv, Nat.le_trans h.ht hd, by have := h.sz; omega, by have := h.sz; have := len_le_size t; omega⟩
def c2 (s : Int) (e : T) (s' : Int) (e' : T) : T := .cons s e (.cons s' e' .nil)
theorem Nm.is {t : T} {v w : Int} {n d n' d' : Nat} (h : Nm t v n d) (hv : v = w) (hn : n ≤ n') (hd : d ≤ d') : Nm t w n' d' := ⟨h.can, h.val.trans hv, Nat.le_trans h.sz hn, Nat.le_trans h.ht hd⟩
def tv (n : Nat) : Int := (towT n).val
end Sk
set_option Elab.async false
set_option linter.all false
set_option maxRecDepth 100000
set_option maxHeartbeats 1000000
namespace Sk
open PySem L2 Evl
theorem Nm.neg {t : T} {v : Int} {n d : Nat} (h : Nm t v n d) : Nm (negT t) (-v) n d := ⟨negT_can h.can, by rw [negT_val, h.val], by rw [negT_size]; exact h.sz, Nat.le_trans (negT_ht t) h.ht⟩
end Sk
set_option Elab.async false
set_option linter.all false
set_option maxRecDepth 100000
set_option maxHeartbeats 1000000
namespace Sk
open PySem L2 Evl
theorem sg_mem : ∀ {t : T}, t.sg → ∀ x ∈ t.toL, (x.1 = 1 ∨ x.1 = -1) ∧ x.2.sg
  | .nil, _, x, hx => by cases hx
  | .cons s e r, h, x, hx => by
    rcases List.mem_cons.mp hx with q | q
    · rw [q]; exact ⟨h.1, h.2.1⟩
    · exact sg_mem h.2.2 x q
/-- the terms read so far -/
structure Rdg (l : List Nat) (n i : Nat) (ts : List (Int × T)) : Prop where
  il : i ≤ l.length
  tk : l.take i = txtT (ofL ts)
  sg : ∀ x ∈ ts, (x.1 = 1 ∨ x.1 = -1) ∧ x.2.sg
  all : ∀ t : T, t.sg → t.size ≤ 400 → t.height ≤ n → tx t = l → ts = t.toL.take ts.length
theorem ne_nil_of {t : T} {l : List Nat} (h : tx t = l) (hl : l ≠ [48]) : t.toL.isEmpty = false ∧ txtT t = l := by
  unfold tx at h
  cases hq : t.toL.isEmpty with
  | true => rw [hq] at h; exact absurd h.symm hl
  | false => rw [hq] at h; exact ⟨rfl, h⟩
theorem txtT_split (t : T) (k : Nat) : txtT t = txtT (ofL (t.toL.take k)) ++ txtT (ofL (t.toL.drop k)) := by
  rw [← txtT_app, List.take_append_drop, ofL_toL]
/-- the next term of a text of a tree -/
theorem Rdg.next {l : List Nat} {n i : Nat} {ts : List (Int × T)} (h : Rdg l n i ts) (hl : l ≠ [48]) (hi : i < l.length) {t : T} (h1 : t.sg) (h2 : t.size ≤ 400) (h3 : t.height ≤ n) (h4 : tx t = l) : ∃ s e rest, t.toL[ts.length]? = some (s, e) ∧ (s = 1 ∨ s = -1) ∧ e.sg ∧ e.size ≤ 400 ∧ e.height + 1 ≤ n ∧ l.drop i = (if s < 0 then 45 else 43) :: 91 :: (tx e ++ 93 :: rest) := by
  obtain ⟨g1, g2⟩ := ne_nil_of h4 hl
  have hts := h.all t h1 h2 h3 h4
  have hsp := txtT_split t ts.length
  rw [← hts, g2, ← h.tk] at hsp
  have hdr : l.drop i = txtT (ofL (t.toL.drop ts.length)) := by
    have h5 := List.take_append_drop i l
    have h6 : l.take i ++ l.drop i = l.take i ++ txtT (ofL (t.toL.drop ts.length)) := by rw [h5]; exact hsp
    exact List.append_cancel_left h6
  cases hq : t.toL.drop ts.length with
  | nil =>
    rw [hq] at hdr
    have : (l.drop i).length = 0 := by rw [hdr]; rfl
    rw [List.length_drop] at this
    omega
  | cons x r =>
    obtain ⟨s, e⟩ := x
    have hg : t.toL[ts.length]? = some (s, e) := by
      have := List.getElem?_drop (xs := t.toL) (i := ts.length) (j := 0)
      rw [hq] at this
      simpa using this.symm
    have hm := List.mem_of_getElem? hg
    have hsg := sg_mem h1 _ hm
    have hms : e.size < t.size ∧ e.height < t.height := mem_size hm
    refine ⟨s, e, txtT (ofL r), hg, hsg.1, hsg.2, by omega, by omega, ?_⟩
    rw [hdr, hq]
    exact txtT_cons s e (ofL r)
end Sk
set_option Elab.async false
set_option linter.all false
set_option maxRecDepth 100000
set_option maxHeartbeats 1000000
namespace Sk
open PySem L2 Evl
def tJoined (ts : List TE) : TE := fun σ H Q => tJs ts Str.empty σ H fun out H1 => Q (.str out) H1
/-- f'..': parts that are texts, one behind the other -/
inductive EvS (σ : L2.St) : List TE → Hp → List (List Nat) → Prop where
  | nil {H} : EvS σ [] H []
  | cons {t ts H l ls} (h : Ev t σ H (vS l)) (r : EvS σ ts H ls) : EvS σ (t :: ts) H (l :: ls)
theorem EvS.mono {σ : L2.St} {ts : List TE} {H H' : Hp} {ls : List (List Nat)} (h : EvS σ ts H ls) (e : Ex H H') : EvS σ ts H' ls := by
  induction h with
  | nil => exact .nil
  | cons h r ih => exact .cons (h.mono e) (ih e)
theorem tJs_run {σ : L2.St} {ts : List TE} {H : Hp} {ls : List (List Nat)} (h : EvS σ ts H ls) : ∀ (acc : List Nat), (acc ++ ls.flatten).length ≤ 100000 → ∀ H1, Ex H H1 → ∀ Q : Str → Hp → Prop, (∀ H2, Ex H1 H2 → Q (mkS (acc ++ ls.flatten)) H2) → tJs ts (mkS acc) σ H1 Q := by
  induction h with
  | nil => intro acc _ H1 e Q q; have := q H1 (Ex.refl _); simp at this; exact this
  | @cons t ts H l ls h r ih =>
    intro acc hz H1 e Q q
    refine h H1 e _ fun H2 e2 => ⟨mkS l, rfl, ?_, ?_⟩
    · rw [mkS_app, mkS_len]
      simp at hz ⊢
      exact szS (by omega)
    · rw [mkS_app]
      exact ih (acc ++ l) (by simpa using hz) H2 (e.trans e2) Q fun H3 e3 => by
        have := q H3 (e2.trans e3)
        simpa using this
theorem ev_joined {σ : L2.St} {ts : List TE} {H : Hp} {ls : List (List Nat)} (h : EvS σ ts H ls) (hz : ls.flatten.length ≤ 100000) : Ev (tJoined ts) σ H (vS ls.flatten) := fun H1 e Q q =>
  tJs_run h [] (by simpa using hz) H1 e _ fun H2 e2 => q H2 e2
theorem ev_fmtS {σ : L2.St} {te : TE} {H : Hp} {l : List Nat} (h : Ev te σ H (vS l)) (hz : l.length ≤ 100000) : Ev (tFmt te) σ H (vS l) := fun H1 e Q q => h H1 e _ fun H2 e2 => .inl ⟨_, rfl, by rw [mkS_len]; exact szS hz, q H2 e2⟩
end Sk
set_option Elab.async false
set_option linter.all false
set_option maxRecDepth 100000
set_option maxHeartbeats 1000000
namespace Sk
open PySem L2 Evl Rd
/-- calls within calls -/
def Fm.cd : Fm → Nat
  | .int _ => 2
  | .name _ => 2
  | .un _ a => a.cd + 3
  | .op _ a b => max a.cd (b.cd + 2)
  | .fna _ a => a.cd + 2
  | .fnb _ a b => max a.cd b.cd + 2
def eP : Least := ⟨fun n => n, fun n => n + 1, fun _ => 3⟩
theorem eP_ok : eP.Ok := ⟨fun _ => Nat.le_refl _, fun _ => Nat.le_refl _, fun _ => Nat.le_refl _⟩
abbrev ptx (t : Fm) : List Nat := ftx dgT eP 1 t
theorem cd_two : ∀ t : Fm, 2 ≤ t.cd
  | .int _ => Nat.le_refl _
  | .name _ => Nat.le_refl _
  | .un _ a => by show 2 ≤ a.cd + 3; omega
  | .op _ a b => by show 2 ≤ max a.cd (b.cd + 2); omega
  | .fna _ a => by show 2 ≤ a.cd + 2; omega
  | .fnb _ a b => by show 2 ≤ max a.cd b.cd + 2; omega
theorem cd_first : ∀ t : Fm, t.first.cd ≤ t.cd
  | .int _ => Nat.le_refl _
  | .name _ => Nat.le_refl _
  | .op _ a b => Nat.le_trans (cd_first a) (Nat.le_max_left _ _)
  | .un _ _ => Nat.le_refl _
  | .fna _ _ => Nat.le_refl _
  | .fnb _ _ _ => Nat.le_refl _
theorem cd_steps : ∀ (t : Fm) (x : OpK × Fm), x ∈ t.steps → x.2.cd + 2 ≤ t.cd
  | .int _, x, h => by cases h
  | .name _, x, h => by cases h
  | .un _ _, x, h => by cases h
  | .fna _ _, x, h => by cases h
  | .fnb _ _ _, x, h => by cases h
  | .op k a b, x, h => by
    rcases List.mem_append.mp h with h | h
    · exact Nat.le_trans (cd_steps a x h) (Nat.le_max_left _ _)
    · rw [List.mem_singleton.mp h]; exact Nat.le_max_right _ _
theorem fine_first {num : Nat → List Nat} : ∀ t : Fm, fine num t → fine num t.first
  | .int _, h => h
  | .name _, h => h
  | .op _ a b, h => fine_first a h.1
  | .un _ _, h => h
  | .fna _ _, h => h
  | .fnb _ _ _, h => h
theorem fine_steps {num : Nat → List Nat} : ∀ (t : Fm), fine num t → ∀ x ∈ t.steps, fine num x.2
  | .int _, _, x, h => by cases h
  | .name _, _, x, h => by cases h
  | .un _ _, _, x, h => by cases h
  | .fna _ _, _, x, h => by cases h
  | .fnb _ _ _, _, x, h => by cases h
  | .op k a b, hf, x, h => by
    rcases List.mem_append.mp h with h | h
    · exact fine_steps a hf.1 x h
    · rw [List.mem_singleton.mp h]; exact hf.2
def build (f : Fm) (l : List (OpK × Fm)) : Fm := l.foldl (fun t x => .op x.1 t x.2) f
theorem build_all : ∀ t : Fm, build t.first t.steps = t
  | .int _ => rfl
  | .name _ => rfl
  | .un _ _ => rfl
  | .fna _ _ => rfl
  | .fnb _ _ _ => rfl
  | .op k a b => by
    show List.foldl _ a.first (a.steps ++ [(k, b)]) = _
    rw [List.foldl_append]
    show Fm.op k (build a.first a.steps) b = _
    rw [build_all a]
theorem build_snoc (f : Fm) (l : List (OpK × Fm)) (x : OpK × Fm) : build f (l ++ [x]) = .op x.1 (build f l) x.2 := by
  unfold build; rw [List.foldl_append]; rfl
theorem par_len (b : Bool) (l : List Nat) : l.length ≤ (parT b l).length ∧ (parT b l).length ≤ l.length + 2 := by
  unfold parT
  cases b
  · exact ⟨Nat.le_refl _, Nat.le_add_right _ _⟩
  · simp; omega
theorem sg_len (k : OpK) : 1 ≤ (OpK.sg k).length ∧ (OpK.sg k).length ≤ 2 := by cases k <;> decide
theorem tx_op_len {num : Nat → List Nat} {e : Least} {g : Nat} {k : OpK} {a b : Fm} : (ftx num e g a).length + (ftx num e g b).length + 1 ≤ (ftx num e g (.op k a b)).length := by
  show _ ≤ (parT _ (ftx num e g a) ++ sp g ++ OpK.sg k ++ sp g ++ parT _ (ftx num e g b)).length
  have h1 := (par_len (decide (rank a < e.l (opR k))) (ftx num e g a)).1
  have h2 := (par_len (decide (rank b < e.r (opR k))) (ftx num e g b)).1
  have h3 := (sg_len k).1
  simp only [List.length_append]
  omega
theorem build_len {num : Nat → List Nat} {e : Least} {g : Nat} : ∀ (l : List (OpK × Fm)) (f : Fm), (ftx num e g f).length + l.length ≤ (ftx num e g (build f l)).length
  | [], f => Nat.le_refl _
  | x :: l, f => by
    have h1 := build_len (num := num) (e := e) (g := g) l (.op x.1 f x.2)
    have h2 := tx_op_len (num := num) (e := e) (g := g) (k := x.1) (a := f) (b := x.2)
    show _ ≤ (ftx num e g (build (.op x.1 f x.2) l)).length
    rw [List.length_cons]
    omega
/-- the text of some of the steps -/
theorem cut_len {t : Fm} (i : Nat) : (ptx (build t.first (t.steps.take i))).length + (t.steps.length - i) ≤ (ptx t).length := by
  have h := build_len (num := dgT) (e := eP) (g := 1) (t.steps.drop i) (build t.first (t.steps.take i))
  have e : build (build t.first (t.steps.take i)) (t.steps.drop i) = t := by
    unfold build
    rw [← List.foldl_append, List.take_append_drop]
    exact build_all t
  rw [e, List.length_drop] at h
  exact h
theorem steps_short (t : Fm) : t.steps.length ≤ (ptx t).length := by
  have := cut_len (t := t) 0
  omega
def OpK.mk : OpK → List Nat | .add => [32, 43, 32] | .sub => [32, 45, 32] | .mul => [32, 42, 32] | .up => [32, 60, 60, 32] | .down => [32, 62, 62, 32]
def marksOfL : List (Str × V) := [("add", .str " + "), ("sub", .str " - "), ("mul", .str " * "), ("up", .str " << "), ("down", .str " >> ")]
def ranksL : List (Str × V) := [("add", .int 1), ("sub", .int 1), ("mul", .int 2), ("up", .int 2), ("down", .int 2)]
theorem lk_marks (k : OpK) : marksOfL.lookup k.w = some (vS (OpK.mk k)) := by cases k <;> rfl
theorem lk_ranks (k : OpK) : ranksL.lookup k.w = some (.int (opR k : Nat)) := by cases k <;> rfl
def rk3 (t : Fm) : Nat := min 3 (rank t)
theorem lk_rank (t : Fm) : (ranksL.lookup t.kw).getD (.int 3) = .int ((rk3 t : Nat) : Int) := by
  cases t with
  | op k a b => cases k <;> rfl
  | un k a => cases k <;> rfl
  | int n => rfl
  | name s => rfl
  | fna f a => rfl
  | fnb f a b => rfl
theorem mk_eq (k : OpK) : OpK.mk k = sp 1 ++ OpK.sg k ++ sp 1 := by cases k <;> rfl
theorem rank_pos (t : Fm) : 1 ≤ rank t := by
  cases t with
  | op k a b => cases k <;> exact Nat.le_of_ble_eq_true rfl
  | _ => exact Nat.le_of_ble_eq_true rfl
theorem rk3_first {t : Fm} (h : t.isOp = false) : rk3 t = 3 := by cases t <;> first | rfl | cases h
theorem rk3_lt {t : Fm} {n : Nat} (h : n ≤ 3) : (rk3 t < n) ↔ (rank t < n) := by unfold rk3; omega
def xStrIS : List V → Hp → VK → Prop := fun xs H Q => (∃ a, xs = [.str a] ∧ Q (.str a) H) ∨ ∃ i, xs = [.int i] ∧ i.natAbs.log2 < 1920 ∧ Q (.str (toString i)) H
theorem call_str_is {X : Cx} : CallR X (.type "str") xStrIS := fun pins s σ H xs us Q I r h => by
  rcases h with h | h
  · exact SkE.call_str_str pins s σ H xs us Q I r h
  · exact call_str_int pins s σ H xs us Q I r h
end Sk
set_option Elab.async false
set_option linter.all false
set_option maxRecDepth 100000
set_option maxHeartbeats 1000000
namespace Sk
open PySem L2 Evl
end Sk
set_option Elab.async false
set_option linter.all false
set_option maxRecDepth 100000
set_option maxHeartbeats 1000000
namespace Sk
open PySem L2 Evl
section
variable {K : PySem.W.Frag} {σ : L2.St} {H : Hp} {te tf : TE} {P : Str → Int → Prop}
theorem ev_intBl {b : Bool} (h : Ev te σ H (.bl b)) : Ev (tCB xInt1 (tCons te tNil)) σ H (.int (if b then 1 else 0)) := ev_cb (ea_cons h ea_nil) fun H1 _ Q q => .inr ⟨b, rfl, q H1 (Ex.refl H1)⟩
end
end Sk
set_option Elab.async false
set_option linter.all false
set_option maxRecDepth 100000
set_option maxHeartbeats 1000000
namespace Sk
open PySem L2 Evl
end Sk
set_option Elab.async false
set_option linter.all false
set_option maxRecDepth 100000
set_option maxHeartbeats 1000000
namespace Sk
open PySem L2 Evl
section
variable {K : PySem.W.Frag} {σ : L2.St} {H : Hp} {te tf : TE} {P : Str → Int → Prop}
theorem ItemsR.cons {α : Type} {R : α → VP} {l : List α} {ys : List V} {a : α} {y : V} {H : Hp} (hy : R a y H) (h : ItemsR R l ys H) : ItemsR R (a :: l) (y :: ys) H := by
  refine ⟨by rw [List.length_cons, List.length_cons, h.1], fun i z b h1 h2 => ?_⟩
  cases i with
  | zero => cases h1; cases h2; exact hy
  | succ i => exact h.2 i z b h1 h2
end
end Sk
set_option Elab.async false
set_option linter.all false
set_option maxRecDepth 100000
set_option maxHeartbeats 1000000
namespace Sk
open PySem L2 Evl Rd
section
variable {K : PySem.W.Frag} {H H' : Hp} {σ : L2.St} {te tf : TE} {E : XK} {Q : VK}
/-- a tree whose plain text is asked for -/
structure PlT (t : Fm) : Prop where
  fine : fine dgT t
  len : (ptx t).length ≤ 90000
def pPlainT (K : PySem.W.Frag) (d : Nat) : V → Hp → VP → Prop := fun x H R => ∃ t : Fm, FmV K H x t ∧ t.cd ≤ d ∧ PlT t ∧ R = fun v _ => v = vS (ptx t)
def sp_plain_text (K : PySem.W.Frag) (d : Nat) : Sp := spF1 (pPlainT K d)
def opT (t : Fm) (n : Nat) : List Nat := parT (decide (rank t < n)) (ptx t)
def pOpT (K : PySem.W.Frag) (d : Nat) : V → V → Hp → VP → Prop := fun x y H R => ∃ (t : Fm) (n : Nat), FmV K H x t ∧ y = .int (n : Int) ∧ n ≤ 3 ∧ t.cd ≤ d ∧ PlT t ∧ R = fun v _ => v = vS (opT t n)
def sp_operand_text (K : PySem.W.Frag) (d : Nat) : Sp := spF2 (pOpT K d)
def pSgT (K : PySem.W.Frag) (d : Nat) : V → Hp → VP → Prop := fun x H R => ∃ t : Fm, FmV K H x t ∧ t.isOp = false ∧ t.cd ≤ d ∧ PlT t ∧ R = fun v _ => v = vS (ptx t)
def sp_single_text (K : PySem.W.Frag) (d : Nat) : Sp := spF1 (pSgT K d)
def t_plain_text (K : PySem.W.Frag) (a_RANKS : Addr) (a_MARKS_OF : Addr) (d : Nat) : TS := (tSeq (tAsg (tCall (sp_unrolled K) [] E0 (tCons (tVar 0) tNil)) (gTup K 2 (gCons (gName 3) (gCons (gName 4) gNil))))
    (tSeq (tAsg (tCall (sp_single_text K (d + 2)) [] E0 (tCons (tVar 3) tNil)) (gName 1))
    (tSeq (tAsg (tC (.int 3)) (gName 2))
    (tSeq (tFor (iList K (tVar 4)) (gTup K 2 (gCons (gName 5) (gCons (gName 6) gNil))) (tSeq (tIfS (tTest (tOp xLt (tVar 2) (tOp (rIxKD a_RANKS ranksL) (tC (.ref a_RANKS)) (tVar 5)))) (tAsg (tJoined [(tC (.str "(")), (tFmt (tVar 1)), (tC (.str ")"))]) (gName 1)) tNext)
    (tSeq (tAsg (tOp (rIxKD a_RANKS ranksL) (tC (.ref a_RANKS)) (tVar 5)) (gName 2))
    (tAsg (tOp xAddS (tOp xAddS (tVar 1) (tOp (rIxKD a_MARKS_OF marksOfL) (tC (.ref a_MARKS_OF)) (tVar 5))) (tCall (sp_operand_text K d) [] E0 (tCons (tVar 6) (tCons (tOp xAdd (tVar 2) (tC (.int 1))) tNil)))) (gName 1)))))
    (tRet (tVar 1))))))
def t_operand_text (K : PySem.W.Frag) (a_RANKS : Addr) (d : Nat) : TS := (tSeq (tAsg (tCall (sp_plain_text K d) [] E0 (tCons (tVar 0) tNil)) (gName 2))
    (tRet (tIf (tTest (tOp xLt (tKGet2 a_RANKS ranksL (tC (.ref a_RANKS)) (tOp (rIxT K) (tVar 0) (tC (.int 0))) (tC (.int 3))) (tVar 1))) (tJoined [(tC (.str "(")), (tFmt (tVar 2)), (tC (.str ")"))]) (tVar 2))))
def t_single_text (K : PySem.W.Frag) (d : Nat) : TS := (tSeq (tAsg (tOp (rIxT K) (tVar 0) (tC (.int 0))) (gName 1))
    (tSeq (tIfS (tTest (tOp rEq (tVar 1) (tC (.str "neg")))) (tRet (tOp xAddS (tC (.str "-")) (tCall (sp_operand_text K d) [] E0 (tCons (tOp (rIxT K) (tVar 0) (tC (.int 1))) (tCons (tC (.int 3)) tNil))))) tNext)
    (tSeq (tIfS (tTest (tOp rEq (tVar 1) (tC (.str "pow")))) (tRet (tOp xAddS (tC (.str "2^")) (tCall (sp_operand_text K d) [] E0 (tCons (tOp (rIxT K) (tVar 0) (tC (.int 1))) (tCons (tC (.int 3)) tNil))))) tNext)
    (tSeq (tIfS (tTest (tOp rEq (tVar 1) (tC (.str "call")))) (tSeq (tAsg (tM1 (rJoinS K) (tC (.str ", ")) (tLc (iTup K (tOp (rIxT K) (tVar 0) (tC (.int 2)))) (gName 3) tYes (tCall (sp_plain_text K (d + 1)) [] E0 (tCons (tVar 3) tNil)) [3])) (gName 2))
    (tRet (tJoined [(tFmt (tOp (rIxT K) (tVar 0) (tC (.int 1)))), (tC (.str "(")), (tFmt (tVar 2)), (tC (.str ")"))]))) tNext)
    (tRet (tCB xStrIS (tCons (tOp (rIxT K) (tVar 0) (tC (.int 1))) tNil)))))))
theorem ev_parens {l : List Nat} (h : Ev te σ H (vS l)) (hz : l.length ≤ 99990) : Ev (tJoined [(tC (.str "(")), (tFmt te), (tC (.str ")"))]) σ H (vS (parT true l)) := by
  have := ev_joined (σ := σ) (H := H) (ls := [[40], l, [41]]) (.cons ev_c (.cons (ev_fmtS h (by omega)) (.cons ev_c .nil))) (by simp; omega)
  rwa [show ([[40], l, [41]] : List (List Nat)).flatten = parT true l from by unfold parT; simp] at this
theorem plt_first {t : Fm} (h : PlT t) : PlT t.first := ⟨fine_first t h.fine, by have := cut_len (t := t) 0; have := h.len; rw [List.take_zero] at *; show (ptx (build t.first [])).length ≤ _; omega⟩
theorem step_len {t : Fm} {i : Nat} {x : OpK × Fm} (hx : t.steps[i]? = some x) : (ptx (build t.first (t.steps.take (i + 1)))).length ≤ (ptx t).length ∧ t.steps.take (i + 1) = t.steps.take i ++ [x] := by
  have hs := take_snoc hx
  have := cut_len (t := t) (i + 1)
  exact ⟨by omega, hs⟩
theorem plt_steps {t : Fm} (h : PlT t) {i : Nat} {x : OpK × Fm} (hx : t.steps[i]? = some x) : PlT x.2 := ⟨fine_steps t h.fine x (List.mem_of_getElem? hx), by
  obtain ⟨h1, h2⟩ := step_len hx
  rw [h2, build_snoc] at h1
  have := tx_op_len (num := dgT) (e := eP) (g := 1) (k := x.1) (a := build t.first (t.steps.take i)) (b := x.2)
  have := h.len
  show (ftx dgT eP 1 x.2).length ≤ _
  have h1 : (ftx dgT eP 1 (.op x.1 (build t.first (t.steps.take i)) x.2)).length ≤ (ptx t).length := h1
  omega⟩
theorem er_opText {d n : Nat} {t : Fm} (h : ER te σ H (fun v H => FmV K H v t)) (h' : Ev tf σ H (.int (n : Int))) (hn : n ≤ 3) (hd : t.cd ≤ d) (hp : PlT t) : Ev (tCall (sp_operand_text K d) [] E (tCons te (tCons tf tNil))) σ H (vS (opT t n)) :=
  ev_er (er_call2 h fmT.mono (er_is h') monoC fun v w H1 e1 g1 g2 => ⟨t, n, g1, g2, hn, hd, hp, rfl⟩)
theorem ev_plText {d : Nat} {t : Fm} (h : ER te σ H (fun v H => FmV K H v t)) (hd : t.cd ≤ d) (hp : PlT t) : Ev (tCall (sp_plain_text K d) [] E (tCons te tNil)) σ H (vS (ptx t)) :=
  ev_er (er_call1 h fmT.mono fun v H1 e1 g1 => ⟨t, g1, hd, hp, rfl⟩)
theorem ptx_op (k : OpK) (a b : Fm) : ptx (.op k a b) = parT (decide (rank a < opR k)) (ptx a) ++ OpK.mk k ++ opT b (opR k + 1) := by
  show parT _ _ ++ sp 1 ++ OpK.sg k ++ sp 1 ++ _ = _
  rw [mk_eq, ← List.append_assoc, ← List.append_assoc]
  rfl
theorem opR_le (k : OpK) : opR k ≤ 2 := by cases k <;> decide
theorem pure_plain_text {aR aM : Addr} {d : Nat} {vs : List V} (h : sp_plain_text K (d + 2) vs H Q E) : t_plain_text K aR aM d { nx := fun _ H' => Q .non H', rt := Q } (start ["tree", "text", "rank", "first", "steps", "kind", "right"] vs) H := by
  obtain ⟨x, R, rfl, ⟨t, hx, hcd, hp, rfl⟩, k⟩ := h
  have hst := steps_short t
  have hlen := hp.len
  refine q_unpack2 (R := UnrR K t) (er_call1 (R1 := fun v H => FmV K H v t) (er_var rfl fun H2 e2 => hx.ex e2) fmT.mono fun v H1 e1 g => ⟨t, g, by omega, rfl⟩) fun v H1 e1 ⟨q, f, st, ys, hv, hq, hf, hst, hit⟩ => ⟨q, f, .ref st, hv, hq, ?_⟩
  have hf0 : build t.first (t.steps.take 0) = t.first := rfl
  refine q_asg (v := vS (ptx t.first)) (ev_er (er_call1 (P := pSgT K (d + 2)) (R1 := fun v H => FmV K H v t.first) (er_var rfl fun H2 e2 => hf.ex e2) fmT.mono fun v H2 e2 g => ⟨t.first, g, first_not t, by have := cd_first t; omega, plt_first hp, rfl⟩)) fun H2 e2 => ?_
  refine q_asg (v := .int 3) ev_c fun H3 e3 => ?_
  refine q_forL (a := st) (xs := ys) (ev_var rfl) (ex_l (e2.trans e3) hst) (fun i σ H' => ∃ (z6 z7 : Option V), σ = [some x, some (vS (ptx (build t.first (t.steps.take i)))), some (.int ((rk3 (build t.first (t.steps.take i)) : Nat) : Int)), some f, some (.ref st), z6, z7] ∧ Ex H1 H')
    (fun H4 e4 => ⟨none, none, by rw [hf0, rk3_first (first_not t)]; rfl, e2.trans (e3.trans e4)⟩) (fun i σ' H' _ ⟨_, _, _, e⟩ => ex_l e hst) ?_ ?_
  · rintro i v σ H4 hi ⟨z6, z7, rfl, e4⟩
    obtain ⟨⟨kk, b⟩, hsi, qp, yv, rfl, hqp, hyv⟩ := hit.of_at hi
    obtain ⟨hl1, hl2⟩ := step_len hsi
    have hpb : PlT b := plt_steps hp hsi
    have hcb : b.cd ≤ d := by have := cd_steps t _ (List.mem_of_getElem? hsi); have : b.cd + 2 ≤ t.cd := this; omega
    rw [hl2, build_snoc]
    rw [hl2, build_snoc] at hl1
    generalize build t.first (t.steps.take i) = T at hl1 ⊢
    have hT : ptx (.op kk T b) = parT (decide (rank T < opR kk)) (ptx T) ++ OpK.mk kk ++ opT b (opR kk + 1) := ptx_op kk T b
    have hl1 : (ptx (.op kk T b)).length ≤ (ptx t).length := hl1
    have hTl := par_len (decide (rank T < opR kk)) (ptx T)
    rw [hT] at hl1
    simp only [List.length_append] at hl1
    have hr2 := opR_le kk
    refine g_pair (tex_sqt (Ex.t e4) hqp) ?_
    have hb : decide (((rk3 T : Nat) : Int) < ((opR kk : Nat) : Int)) = decide (rank T < opR kk) := by
      rw [Bool.eq_iff_iff, decide_eq_true_eq, decide_eq_true_eq, Int.ofNat_lt]
      exact rk3_lt (by omega)
    refine s_ifAsg (b := decide (rank T < opR kk)) (v := vS (parT (decide (rank T < opR kk)) (ptx T))) (by rw [← hb]; exact et_test (ev_lt (ev_var rfl) (ev_ixKD (ev_var rfl) (lk_ranks kk)))) (fun q => ?_) (fun q => ?_) fun H5 e5 => ?_
    · rw [q]
      exact ev_parens (ev_var rfl) (by omega)
    · rw [q]; rfl
    refine q_asg (v := .int ((opR kk : Nat) : Int)) (ev_ixKD (ev_var rfl) (lk_ranks kk)) fun H6 e6 => ?_
    have hop : Ev (tCall (sp_operand_text K d) [] E0 (tCons (tVar 6) (tCons (tOp xAdd (tVar 2) (tC (.int 1))) tNil))) [some x, some (vS (parT (decide (rank T < opR kk)) (ptx T))), some (.int ((opR kk : Nat) : Int)), some f, some (.ref st), some (.str kk.w), some yv] H6 (vS (opT b (opR kk + 1))) :=
      er_opText (er_var rfl fun H7 e7 => (hyv.ex (e4.trans (e5.trans e6))).ex e7) (ev_is (ev_add (ev_var rfl) ev_c) (congrArg V.int (show ((opR kk : Nat) : Int) + 1 = ((opR kk + 1 : Nat) : Int) by omega))) (by omega) hcb hpb
    refine s_asg (v := vS (ptx (.op kk T b))) (by rw [hT]; exact ev_addS (ev_addS (ev_var rfl) (ev_ixKD (ev_var rfl) (lk_marks kk)) (by omega)) hop (by rw [List.length_append]; omega)) fun H7 e7 => ?_
    refine ⟨some (.str kk.w), some yv, ?_, e4.trans (e5.trans (e6.trans e7))⟩
    have hrk : rk3 (.op kk T b) = opR kk := by
      show min 3 (opR kk) = opR kk
      omega
    rw [hrk]
    rfl
  · rintro σ H4 ⟨z6, z7, rfl, e4⟩
    refine s_ret (ev_var rfl) fun H5 e5 => k _ H5 (e1.trans (e4.trans e5)) ?_
    rw [hit.1, List.take_length, build_all]
theorem pure_operand_text {aR : Addr} {d : Nat} {vs : List V} (h : sp_operand_text K d vs H Q E) : t_operand_text K aR d { nx := fun _ H' => Q .non H', rt := Q } (start ["tree", "least", "text"] vs) H := by
  obtain ⟨x, y, R, rfl, ⟨t, n, hx, rfl, hn, hcd, hp, rfl⟩, k⟩ := h
  have hlen := hp.len
  refine q_asg (v := vS (ptx t)) (ev_plText (er_var rfl fun H2 e2 => hx.ex e2) hcd hp) fun H1 e1 => ?_
  obtain ⟨a, xs, rfl, hs⟩ := fm_kw hx
  have hr : Ev (tKGet2 aR ranksL (tC (.ref aR)) (tOp (rIxT K) (tVar 0) (tC (.int 0))) (tC (.int 3))) [some (.ref a), some (.int (n : Int)), some (vS (ptx t))] H1 (.int ((rk3 t : Nat) : Int)) := by
    have := ev_kget2 (d := aR) (l := ranksL) (z := t.kw) (v := .int 3) (H := H1) (σ := [some (.ref a), some (.int (n : Int)), some (vS (ptx t))]) (te := tOp (rIxT K) (tVar 0) (tC (.int 0))) (tf := tC (.int 3)) (ev_atT (ev_var rfl) ev_c (ex_t e1 hs) (atI_n (i := 0) rfl)) ev_c
    rw [lk_rank] at this
    exact this
  have hb : decide (((rk3 t : Nat) : Int) < (n : Int)) = decide (rank t < n) := by
    rw [Bool.eq_iff_iff, decide_eq_true_eq, decide_eq_true_eq, Int.ofNat_lt]
    exact rk3_lt hn
  refine s_ret (v := vS (opT t n)) (ev_if (b := decide (rank t < n)) (by rw [← hb]; exact et_test (ev_lt hr (ev_var rfl))) (fun q => ?_) fun q => ?_) fun H2 e2 => k _ H2 (e1.trans e2) rfl
  · unfold opT
    rw [q]
    exact ev_parens (ev_var rfl) (by omega)
  · unfold opT
    rw [q]
    exact ev_var rfl
theorem ev_joinC {te : TE} {ls : List (List Nat)} (h : ER te σ H (fun v H2 => ∃ p, v = .ref p ∧ H2 p = some (.lst (ls.map vS)))) (hz : (ls.map List.length).sum + ls.length * 2 ≤ 100000) : Ev (tM1 (rJoinS K) (tC (.str ", ")) te) σ H (.str (Txt.join (mkS [44, 32]) (ls.map mkS))) := fun H1 e1 Q q =>
  ⟨⟨_, rfl⟩, h H1 e1 _ fun v H2 e2 ⟨p, hv, hp⟩ => by
    subst hv
    refine ⟨mkS [44, 32], p, ls.map mkS, rfl, rfl, .inl (by rw [List.map_map]; exact sq_of hp), ?_, q H2 e2⟩
    have : ((ls.map mkS).map (·.length)) = ls.map List.length := by
      rw [List.map_map]
      exact List.map_congr_left fun l _ => mkS_len l
    rw [this, List.length_map, mkS_len]
    exact Nat.le_trans hz (by decide)⟩
theorem join_one (a : List Nat) : Txt.join (mkS [44, 32]) ([a].map mkS) = mkS a := by
  rw [TL.join_eq]; rfl
theorem join_two (a b : List Nat) : Txt.join (mkS [44, 32]) ([a, b].map mkS) = mkS (a ++ [44, 32] ++ b) := by
  rw [TL.join_eq]
  show mkS a ++ mkS [44, 32] ++ mkS b = _
  rw [mkS_app, mkS_app]
theorem ptx_lens {ts : List Fm} {ys : List V} (h : ItemsR (fun (t : Fm) v _ => v = vS (ptx t)) ts ys H) : ys = (ts.map ptx).map vS := by
  refine List.ext_getElem? fun i => ?_
  rw [List.map_map, List.getElem?_map]
  cases e : ts[i]? with
  | none =>
    have := List.getElem?_eq_none_iff.mp e
    rw [List.getElem?_eq_none (by rw [h.1]; exact this)]; rfl
  | some t =>
    obtain ⟨y, hy, hv⟩ := h.at e
    rw [hy, hv]; rfl
/-- the arguments' texts -/
theorem ev_args {d : Nat} {ts : List Fm} {a b : Addr} {xs zs : List V} {σ : L2.St} (hx3 : ∀ x : V, ((wipe σ [3]).set 3 (some x))[3]? = some (some x)) (hw : ∀ x : V, wipe ((wipe σ [3]).set 3 (some x)) [3] = wipe σ [3]) (h0 : σ[0]? = some (some (.ref a))) (hs : SqT K H a xs) (h2 : atI xs (2 : Int) = some (.ref b)) (hb : SqT K H b zs) (hi : ItemsR (fun (t : Fm) v H => FmV K H v t) ts zs H) (hc : ∀ t ∈ ts, t.cd ≤ d ∧ PlT t) (hn : ts.length ≤ 2)
    (hz : (ts.map fun t => (ptx t).length).sum ≤ 90000) :
    Ev (tM1 (rJoinS K) (tC (.str ", ")) (tLc (iTup K (tOp (rIxT K) (tVar 0) (tC (.int 2)))) (gName 3) tYes (tCall (sp_plain_text K d) [] E0 (tCons (tVar 3) tNil)) [3])) σ H (.str (Txt.join (mkS [44, 32]) ((ts.map ptx).map mkS))) := by
  refine ev_joinC (ls := ts.map ptx) ?_ (by rw [List.map_map, List.length_map]; show (ts.map fun t => (ptx t).length).sum + _ ≤ _; omega)
  refine (er_lcIT (R1 := fun (t : Fm) v H => FmV K H v t) (R2 := fun (t : Fm) v _ => v = vS (ptx t)) (l := ts) (er_ev (ev_atT (ev_var h0) ev_c hs h2) fun H2 e2 => ⟨b, zs, rfl, ex_t e2 hb, hi.ex (fun _ => fmT.mono) e2⟩) (fun _ => fmT.mono) (fun _ => monoTC) (by omega) fun j t x H2 hj hx e2 Qk kk => ?_).imp fun v H2 e2 ⟨p, ys, h1, h2, h3, h4⟩ => ⟨p, h1, by rw [← ptx_lens h4]; exact h3⟩
  have hm := hc t (List.mem_of_getElem? hj)
  exact ⟨hw x, (ev_plText (t := t) (er_var (hx3 x) fun H3 e3 => FmV.ex hx e3) hm.1 hm.2) H2 (Ex.refl _) _ fun H3 e3 => kk _ H3 e3 rfl⟩
theorem call_text {u x : List Nat} {ta tb : TE} (h1 : Ev ta σ H (vS u)) (h2 : Ev tb σ H (vS x)) (hz : u.length + x.length ≤ 99000) : Ev (tJoined [(tFmt ta), (tC (.str "(")), (tFmt tb), (tC (.str ")"))]) σ H (vS (u ++ [40] ++ x ++ [41])) := by
  have := ev_joined (σ := σ) (H := H) (ls := [u, [40], x, [41]]) (.cons (ev_fmtS h1 (by omega)) (.cons ev_c (.cons (ev_fmtS h2 (by omega)) (.cons ev_c .nil)))) (by simp; omega)
  rwa [show ([u, [40], x, [41]] : List (List Nat)).flatten = u ++ [40] ++ x ++ [41] from by simp] at this
theorem fnA_sg (f : FnA) : f.w = mkS (FnA.sg f) := by cases f <;> rfl
theorem fnB_sg (f : FnB) : f.w = mkS (FnB.sg f) := by cases f <;> rfl
theorem num_S (n : Nat) : (toString ((n : Nat) : Int) : Str) = mkS (dgT n) := SX.num_S n
theorem int_log {n : Nat} (h : isInt (dgT n) = true) : ((n : Nat) : Int).natAbs.log2 < 1920 := by
  have hi : isInt (dgT n) = (!(decide ((dgT n).take 1 = [48]) && !decide (dgT n = [48])) && (decide (1 ≤ (dgT n).length ∧ (dgT n).length ≤ 18) && (dgT n).all fun c => decide (c ∈ Tk.digits))) := rfl
  rw [hi, Bool.and_eq_true, Bool.and_eq_true, decide_eq_true_eq] at h
  have hl := h.2.1.2
  have hn : n < 10 ^ 18 := by
    have := TL.numL_val n
    rw [← this]
    have hb : ∀ l : List Nat, (∀ c ∈ l, 48 ≤ c ∧ c ≤ 57) → ∀ a, l.foldl (fun acc c => acc * 10 + (c - 48)) a < (a + 1) * 10 ^ l.length := by
      intro l
      induction l with
      | nil => intro _ a; simp
      | cons c l ih =>
        intro hc a
        have h1 := hc c List.mem_cons_self
        have := ih (fun d hd => hc d (List.mem_cons_of_mem _ hd)) (a * 10 + (c - 48))
        rw [List.foldl_cons, List.length_cons, Nat.pow_succ]
        refine Nat.lt_of_lt_of_le this ?_
        have h2 : a * 10 + (c - 48) + 1 ≤ (a + 1) * 10 := by omega
        calc (a * 10 + (c - 48) + 1) * 10 ^ l.length ≤ ((a + 1) * 10) * 10 ^ l.length := Nat.mul_le_mul_right _ h2
          _ = (a + 1) * (10 ^ l.length * 10) := by rw [Nat.mul_assoc, Nat.mul_comm 10]
    have := hb (TL.numL n) (TL.numL_digits n) 0
    refine Nat.lt_of_lt_of_le this ?_
    rw [Nat.zero_add, Nat.one_mul]
    exact Nat.pow_le_pow_right (by decide) hl
  show n.log2 < 1920
  by_cases h0 : n = 0
  · subst h0; decide
  · rw [Nat.log2_lt h0]
    exact Nat.lt_trans hn (by decide)
theorem plt_un {k : UnK} {a : Fm} (h : PlT (.un k a)) : PlT a ∧ (opT a 3).length + 2 ≤ 90002 := by
  have h1 : (UnK.sg k ++ opT a 3).length ≤ 90000 := h.len
  have h2 := (par_len (decide (rank a < 3)) (ptx a)).1
  rw [List.length_append] at h1
  have h3 : (ptx a).length ≤ (opT a 3).length := h2
  exact ⟨⟨h.fine, by omega⟩, by omega⟩
theorem pure_single_text {d : Nat} {vs : List V} (h : sp_single_text K (d + 3) vs H Q E) : t_single_text K d { nx := fun _ H' => Q .non H', rt := Q } (start ["tree", "kind", "args", "part"] vs) H := by
  obtain ⟨x, R, rfl, ⟨t, hx, hop, hcd, hp, rfl⟩, k⟩ := h
  have hlen := hp.len
  cases t with
  | op kk a b => cases hop
  | int n =>
    obtain ⟨a, rfl, hs⟩ := fm_int hx
    refine q_asg (v := .str "int") (ev_atT (ev_var rfl) ev_c hs (atI_n (i := 0) rfl)) fun H1 e1 => w_no rfl (by decide +kernel) fun H2 e2 => w_no rfl (by decide +kernel) fun H3 e3 => w_no rfl (by decide +kernel) fun H4 e4 => ?_
    have e14 := e1.trans (e2.trans (e3.trans e4))
    refine s_ret (v := vS (dgT n)) (ev_cb (ea_cons (ev_atT (v := .int (n : Int)) (ev_var rfl) ev_c (ex_t e14 hs) (atI_n (i := 1) rfl)) ea_nil) fun H5 e5 Q q => .inr ⟨(n : Int), rfl, int_log hp.fine.1, by rw [num_S]; exact q H5 (Ex.refl _)⟩) fun H5 e5 => k _ H5 (e14.trans e5) rfl
  | name s =>
    obtain ⟨a, rfl, hs⟩ := fm_name hx
    refine q_asg (v := .str "name") (ev_atT (ev_var rfl) ev_c hs (atI_n (i := 0) rfl)) fun H1 e1 => w_no rfl (by decide +kernel) fun H2 e2 => w_no rfl (by decide +kernel) fun H3 e3 => w_no rfl (by decide +kernel) fun H4 e4 => ?_
    have e14 := e1.trans (e2.trans (e3.trans e4))
    refine s_ret (v := vS s) (ev_cb (ea_cons (ev_atT (v := vS s) (ev_var rfl) ev_c (ex_t e14 hs) (atI_n (i := 1) rfl)) ea_nil) fun H5 e5 Q q => .inl ⟨_, rfl, q H5 (Ex.refl _)⟩) fun H5 e5 => k _ H5 (e14.trans e5) rfl
  | un kk a =>
    obtain ⟨p, w, rfl, hs, hw⟩ := fm_un hx
    obtain ⟨hpa, hoz⟩ := plt_un hp
    have hca : a.cd ≤ d := by have : a.cd + 3 ≤ d + 3 := hcd; omega
    have hT : ptx (.un kk a) = UnK.sg kk ++ opT a 3 := rfl
    refine q_asg (v := .str kk.w) (ev_atT (ev_var rfl) ev_c hs (atI_n (i := 0) rfl)) fun H1 e1 => ?_
    have op : ∀ {H2 : Hp}, Ex H1 H2 → Ev (tCall (sp_operand_text K d) [] E0 (tCons (tOp (rIxT K) (tVar 0) (tC (.int 1))) (tCons (tC (.int 3)) tNil))) [some (.ref p), some (.str kk.w), none, none] H2 (vS (opT a 3)) := fun e2 =>
      er_opText (n := 3) (er_ev (ev_atT (v := w) (ev_var rfl) ev_c (ex_t (e1.trans e2) hs) (atI_n (i := 1) rfl)) fun H3 e3 => hw.ex (e1.trans (e2.trans e3))) ev_c (by omega) hca hpa
    cases kk with
    | neg =>
      refine w_yes rfl (by decide +kernel) fun H2 e2 => s_ret (v := vS (ptx (.un .neg a))) (ev_addS (l := [45]) (m := opT a 3) ev_c (op e2) (by show 1 + (opT a 3).length ≤ 100000; omega)) fun H3 e3 => k _ H3 (e1.trans (e2.trans e3)) rfl
    | pow =>
      refine w_no rfl (by decide +kernel) fun H2 e2 => w_yes rfl (by decide +kernel) fun H3 e3 => s_ret (v := vS (ptx (.un .pow a))) (ev_addS (l := [50, 94]) (m := opT a 3) ev_c (op (e2.trans e3)) (by show 2 + (opT a 3).length ≤ 100000; omega)) fun H4 e4 => k _ H4 (e1.trans (e2.trans (e3.trans e4))) rfl
  | fna f a =>
    obtain ⟨p, b, w, rfl, hs, hb, hw⟩ := fm_fna hx
    have hT : ptx (.fna f a) = FnA.sg f ++ [40] ++ ptx a ++ [41] := rfl
    have hfl : (FnA.sg f).length ≤ 5 := by cases f <;> decide
    rw [hT] at hlen
    simp only [List.length_append, List.length_cons, List.length_nil] at hlen
    have hca : a.cd ≤ d + 1 := by have : a.cd + 2 ≤ d + 3 := hcd; omega
    refine q_asg (v := .str "call") (ev_atT (ev_var rfl) ev_c hs (atI_n (i := 0) rfl)) fun H1 e1 => w_no rfl (by decide +kernel) fun H2 e2 => w_no rfl (by decide +kernel) fun H3 e3 => w_yes rfl (by decide +kernel) fun H4 e4 => ?_
    have e14 := e1.trans (e2.trans (e3.trans e4))
    have ha := ev_args (K := K) (d := d + 1) (ts := [a]) (σ := [some (.ref p), some (.str "call"), none, none]) (fun _ => rfl) (fun _ => rfl) rfl (ex_t e14 hs) (atI_n (i := 2) rfl) (ex_t e14 hb) (ItemsR.cons (hw.ex e14) ItemsR.nil) (fun t ht => by
      rw [List.mem_singleton.mp ht]; exact ⟨hca, hp.fine, by omega⟩) (by show 1 ≤ 2; omega) (by simp; omega)
    rw [show Txt.join (mkS [44, 32]) (([a].map ptx).map mkS) = mkS (ptx a) from join_one _] at ha
    refine q_asg ha fun H5 e5 => s_ret (v := vS (ptx (.fna f a))) (call_text (u := FnA.sg f) (x := ptx a) (ev_is (ev_atT (v := .str f.w) (ev_var rfl) ev_c (ex_t (e14.trans e5) hs) (atI_n (i := 1) rfl)) (by rw [fnA_sg])) (ev_var rfl) (by omega)) fun H6 e6 => k _ H6 (e14.trans (e5.trans e6)) rfl
  | fnb f a a2 =>
    obtain ⟨p, b, w, w2, rfl, hs, hb, hw, hw2⟩ := fm_fnb hx
    have hT : ptx (.fnb f a a2) = FnB.sg f ++ [40] ++ (ptx a ++ [44, 32] ++ ptx a2) ++ [41] := by
      show FnB.sg f ++ [40] ++ ptx a ++ [44] ++ sp 1 ++ ptx a2 ++ [41] = _
      simp
    have hfl : (FnB.sg f).length ≤ 5 := by cases f <;> decide
    rw [hT] at hlen
    simp only [List.length_append, List.length_cons, List.length_nil] at hlen
    have hca : max a.cd a2.cd + 2 ≤ d + 3 := hcd
    refine q_asg (v := .str "call") (ev_atT (ev_var rfl) ev_c hs (atI_n (i := 0) rfl)) fun H1 e1 => w_no rfl (by decide +kernel) fun H2 e2 => w_no rfl (by decide +kernel) fun H3 e3 => w_yes rfl (by decide +kernel) fun H4 e4 => ?_
    have e14 := e1.trans (e2.trans (e3.trans e4))
    have ha := ev_args (K := K) (d := d + 1) (ts := [a, a2]) (σ := [some (.ref p), some (.str "call"), none, none]) (fun _ => rfl) (fun _ => rfl) rfl (ex_t e14 hs) (atI_n (i := 2) rfl) (ex_t e14 hb) (ItemsR.cons (hw.ex e14) (ItemsR.cons (hw2.ex e14) ItemsR.nil)) (fun t ht => by
      rcases List.mem_cons.mp ht with rfl | ht
      · exact ⟨by omega, hp.fine.1, by omega⟩
      · rw [List.mem_singleton.mp ht]; exact ⟨by omega, hp.fine.2, by omega⟩) (by show 2 ≤ 2; omega) (by simp; omega)
    rw [show Txt.join (mkS [44, 32]) (([a, a2].map ptx).map mkS) = mkS (ptx a ++ [44, 32] ++ ptx a2) from join_two _ _] at ha
    refine q_asg ha fun H5 e5 => s_ret (v := vS (ptx (.fnb f a a2))) (by rw [hT]; exact call_text (ev_is (ev_atT (v := .str f.w) (ev_var rfl) ev_c (ex_t (e14.trans e5) hs) (atI_n (i := 1) rfl)) (by rw [fnB_sg])) (ev_var rfl) (by simp only [List.length_append, List.length_cons, List.length_nil]; omega)) fun H6 e6 => k _ H6 (e14.trans (e5.trans e6)) rfl
end
end Sk
set_option Elab.async false
set_option linter.all false
set_option maxRecDepth 100000
set_option maxHeartbeats 1000000
namespace Sk
open PySem L2 Evl Rd
section
variable {K : PySem.W.Frag} {H H' : Hp} {E : XK} {Q : VK} {vs : List V}
theorem vac_plain {d : Nat} (hd : d ≤ 1) (h : sp_plain_text K d vs H Q E) : False := by
  obtain ⟨x, R, _, ⟨t, _, hc, _⟩, _⟩ := h
  have := cd_two t
  omega
theorem vac_operand (h : sp_operand_text K 0 vs H Q E) : False := by
  obtain ⟨x, y, R, _, ⟨t, n, _, _, _, hc, _⟩, _⟩ := h
  have := cd_two t
  omega
theorem single_up {d : Nat} (h : sp_single_text K d vs H Q E) : sp_single_text K (d + 1) vs H Q E := by
  obtain ⟨x, R, hv, ⟨t, hx, ho, hc, hp, hR⟩, k⟩ := h
  exact ⟨x, R, hv, ⟨t, hx, ho, by omega, hp, hR⟩, k⟩
end
end Sk
set_option Elab.async false
set_option linter.all false
set_option maxRecDepth 100000
set_option maxHeartbeats 1000000
namespace Sk
namespace Rd
open Sk
def wtT (l : Ts) : Nat := (l.map fun t => t.length + 2).sum
theorem wtT_cons (a : List Nat) (l : Ts) : wtT (a :: l) = a.length + 2 + wtT l := by unfold wtT; rw [List.map_cons, List.sum_cons]
theorem wtT_hd {l : Ts} (h : hd l ≠ []) : wtT l = (hd l).length + 2 + wtT l.tail := by
  cases l with
  | nil => exact absurd rfl h
  | cons a l => exact wtT_cons a l
/-- t was read where l stood, r was left; with m levels; rk: an operand of such a rank was asked for -/
structure Got (m : Nat) (rk : Nat) (c : Nat) (l : Ts) (t : Fm) (r : Ts) : Prop where
  fine : fine dgT t
  lv : pl (decide (rank t < rk)) (lv eP t) ≤ m
  len : (parT (decide (rank t < rk)) (ptx t)).length + wtT r ≤ wtT l
  cd : t.cd ≤ 6 * m + c
theorem pl_le (b : Bool) (n : Nat) : n ≤ pl b n := by unfold pl; cases b <;> simp
theorem pl_mono {a b : Nat} {t : Fm} {n : Nat} (h : a ≤ b) : pl (decide (rank t < a)) n ≤ pl (decide (rank t < b)) n := by
  by_cases q : rank t < a
  · rw [decide_eq_true q, decide_eq_true (show rank t < b by omega)]; exact Nat.le_refl _
  · rw [decide_eq_false q]; exact pl_le _ _
theorem parT_mono {a b : Nat} {t : Fm} {l : List Nat} (h : a ≤ b) : (parT (decide (rank t < a)) l).length ≤ (parT (decide (rank t < b)) l).length := by
  by_cases q : rank t < a
  · rw [decide_eq_true q, decide_eq_true (show rank t < b by omega)]; exact Nat.le_refl _
  · rw [decide_eq_false q]; exact (par_len _ _).1
theorem Got.weak {m rk rk' c c' : Nat} {l : Ts} {t : Fm} {r : Ts} (h : Got m rk c l t r) (h1 : rk' ≤ rk) (h2 : c ≤ c') : Got m rk' c' l t r :=
  ⟨h.fine, Nat.le_trans (pl_mono h1) h.lv, by have := parT_mono (t := t) (l := ptx t) h1; have := h.len; omega, by have := h.cd; omega⟩
theorem no_par {t : Fm} {rk : Nat} (h : rk ≤ rank t) : decide (rank t < rk) = false := decide_eq_false (by omega)
/-- a loop: left operands of rank rk, right ones of rank rk + 1 -/
theorem loop_got {kf : List Nat → Option OpK} {p : PR} {m rk c : Nat} (hk : ∀ s k, kf s = some k → opR k = rk ∧ s.length = (OpK.sg k).length) (hp : ∀ l t r, p l = some (t, r) → Got m (rk + 1) c l t r) : ∀ (n : Nat) (t : Fm) (l l0 : Ts) {u r}, loopT kf p n t l = some (u, r) → Got m rk (c + 2) l0 t l → Got m rk (c + 2) l0 u r
  | 0, t, l, l0, u, r, h, g => by cases h; exact g
  | n + 1, t, l, l0, u, r, h, g => by
    cases hq : kf (hd l) with
    | none => rw [loop_stop hq] at h; cases h; exact g
    | some k =>
      rw [loop_go hq] at h
      cases hx : p l.tail with
      | none => rw [hx] at h; cases h
      | some x =>
        obtain ⟨v, r1⟩ := x
        rw [hx] at h
        obtain ⟨h1, h2⟩ := hk _ _ hq
        have gv := hp _ _ _ hx
        have hne : hd l ≠ [] := fun q => by rw [q] at h2; have := (sg_len k).1; rw [← h2] at this; exact absurd this (by decide)
        have hw := wtT_hd hne
        refine loop_got hk hp n _ r1 l0 h ⟨⟨g.fine, gv.fine⟩, ?_, ?_, ?_⟩
        · rw [no_par (show rk ≤ rank (.op k t v) by show rk ≤ opR k; omega)]
          show max (pl (decide (rank t < opR k)) (Rd.lv eP t)) (pl (decide (rank v < opR k + 1)) (Rd.lv eP v)) ≤ m
          rw [h1]
          exact Nat.max_le.mpr ⟨g.lv, gv.lv⟩
        · rw [no_par (show rk ≤ rank (.op k t v) by show rk ≤ opR k; omega)]
          show (ptx (.op k t v)).length + _ ≤ _
          rw [ptx_op, h1]
          have a1 := g.len
          have a2 : (opT v (rk + 1)).length + wtT r1 ≤ wtT l.tail := gv.len
          have a3 : (OpK.mk k).length = (OpK.sg k).length + 2 := by cases k <;> rfl
          simp only [List.length_append]
          omega
        · show max t.cd (v.cd + 2) ≤ _
          have := g.cd
          have := gv.cd
          omega
theorem chain_got {kf : List Nat → Option OpK} {p : PR} {m rk c : Nat} (hk : ∀ s k, kf s = some k → opR k = rk ∧ s.length = (OpK.sg k).length) (hp : ∀ l t r, p l = some (t, r) → Got m (rk + 1) c l t r) {l : Ts} {t : Fm} {r : Ts} (h : chain kf p l = some (t, r)) : Got m rk (c + 2) l t r := by
  unfold chain at h
  cases hx : p l with
  | none => rw [hx] at h; cases h
  | some x =>
    obtain ⟨u, r1⟩ := x
    rw [hx] at h
    exact loop_got hk hp _ _ _ _ h ((hp _ _ _ hx).weak (Nat.le_succ _) (Nat.le_add_right _ _))
theorem sumK_ok (s : List Nat) (k : OpK) (h : sumK s = some k) : opR k = 1 ∧ s.length = (OpK.sg k).length := by
  unfold sumK at h
  split at h
  · rename_i e; cases h; rw [e]; exact ⟨rfl, rfl⟩
  split at h
  · rename_i e; cases h; rw [e]; exact ⟨rfl, rfl⟩
  cases h
theorem prodK_ok (s : List Nat) (k : OpK) (h : prodK s = some k) : opR k = 2 ∧ s.length = (OpK.sg k).length := by
  unfold prodK at h
  split at h
  · rename_i e; cases h; rw [e]; exact ⟨rfl, rfl⟩
  split at h
  · rename_i e; cases h; rw [e]; exact ⟨rfl, rfl⟩
  split at h
  · rename_i e; cases h; rw [e]; exact ⟨rfl, rfl⟩
  cases h
theorem signK_ok (s : List Nat) (k : UnK) (h : signK s = some k) : s = UnK.sg k := by
  unfold signK at h
  split at h
  · rename_i e; cases h; rw [e]; rfl
  split at h
  · rename_i e; cases h; rw [e]; rfl
  cases h
theorem fnA_len {s : List Nat} {f : FnA} (h : fnA s = some f) : s = FnA.sg f := mkS_inj.mp (by rw [fnA_w' h]; exact fnA_sg f)
where fnA_w' {t : List Nat} {f : FnA} (h : fnA t = some f) : mkS t = f.w := by
        unfold fnA at h
        split at h
        · rename_i e; subst e; cases h; rfl
        split at h
        · rename_i e; subst e; cases h; rfl
        split at h
        · rename_i e; subst e; cases h; rfl
        split at h
        · rename_i e; subst e; cases h; rfl
        cases h
theorem fnB_len {s : List Nat} {f : FnB} (h : fnB s = some f) : s = FnB.sg f := mkS_inj.mp (by rw [fnB_w' h]; exact fnB_sg f)
where fnB_w' {t : List Nat} {f : FnB} (h : fnB t = some f) : mkS t = f.w := by
        unfold fnB at h
        split at h
        · rename_i e; subst e; cases h; rfl
        split at h
        · rename_i e; subst e; cases h; rfl
        split at h
        · rename_i e; subst e; cases h; rfl
        split at h
        · rename_i e; subst e; cases h; rfl
        cases h
end Rd
end Sk
set_option Elab.async false
set_option linter.all false
set_option maxRecDepth 100000
set_option maxHeartbeats 1000000
namespace Sk
open PySem L2 Evl Rd
section
variable {K : PySem.W.Frag}
structure RdC (K : PySem.W.Frag) (C : Addr) : Prop where
  cl : Cls K C
  nP : NoAttr K C "parts"
  nA : NoAttr K C "at"
def rdF (pl : Addr) (i : Int) : List (Str × V) := [("parts", .ref pl), ("at", .int i)]
theorem rd_parts (pl : Addr) (i : Int) : (rdF pl i).lookup ("parts" : Str) = some (V.ref pl) := rfl
theorem rd_at (pl : Addr) (i : Int) : (rdF pl i).lookup ("at" : Str) = some (V.int i) := rfl
theorem rd_put (pl : Addr) (i j : Int) : putF "at" (.int j) (rdF pl i) = rdF pl j := rfl
theorem rd_new (pl : Addr) (i : Int) : putF "at" (.int i) (putF "parts" (.ref pl) []) = rdF pl i := rfl
/-- a reader that stands at r and has these tokens ahead -/
structure RdSt (K : PySem.W.Frag) (C : Addr) (H : Hp) (r : Addr) (l : Ts) : Prop where
  cls : RdC K C
  out : ∃ (dx pl : Addr) (ts : Ts) (i : Nat), H r = some (.ins C dx (rdF pl (i : Int))) ∧ SqL K H pl (ts.map vS) ∧ ts.drop i = l ∧ ts.length ≤ 1000 ∧ ∀ t ∈ ts, t ≠ [] ∧ t.length ≤ 1000
variable {C r : Addr} {H H' : Hp} {l : Ts}
theorem RdSt.ex (h : RdSt K C H r l) (e : Ex H H') : RdSt K C H' r l := ⟨h.cls, let ⟨dx, pl, ts, i, h1, h2, h3⟩ := h.out; ⟨dx, pl, ts, i, e _ _ h1, ex_l e h2, h3⟩⟩
theorem ExP.sql {p : Addr} {C dx a : Addr} {fs : List (Str × V)} {xs : List V} (e : ExP p H H') (hp : H p = some (.ins C dx fs)) (h : SqL K H a xs) : SqL K H' a xs := by
  rcases h with h | h
  · rcases h with h | ⟨o, h⟩
    · exact .inl (.inl (e a _ (fun q => by rw [q, hp] at h; cases h) h))
    · exact .inl (.inr ⟨o, e a _ (fun q => by rw [q, hp] at h; cases h) h⟩)
  · exact .inr h
theorem ExP.texI {p C dx : Addr} {fs : List (Str × V)} (e : ExP p H H') (h : H p = some (.ins C dx fs)) : TEx H H' := fun a o ha c => by
  by_cases q : a = p
  · subst q; rw [h] at ha; cases ha; exact c.elim
  · exact e a o q ha
theorem RdSt.tex (h : RdSt K C H r l) (e : ExP r H H') : TEx H H' := let ⟨_, _, _, _, h1, _⟩ := h.out; e.texI h1
theorem RdSt.full (h : RdSt K C H r l) : ∀ t ∈ l, t ≠ [] ∧ t.length ≤ 1000 := by
  obtain ⟨_, _, ts, i, _, _, h3, h4, h5⟩ := h.out
  intro t ht
  rw [← h3] at ht
  exact h5 t (List.mem_of_mem_drop ht)
theorem RdSt.hd_nil (h : RdSt K C H r l) : hd l = [] ↔ l = [] := by
  cases l with
  | nil => exact ⟨fun _ => rfl, fun _ => rfl⟩
  | cons a l => exact ⟨fun q => absurd q (h.full a List.mem_cons_self).1, fun q => by cases q⟩
/-- one further -/
theorem RdSt.next (h : RdSt K C H r l) {dx pl : Addr} {ts : Ts} {i : Nat} (h1 : H r = some (.ins C dx (rdF pl (i : Int)))) (h2 : SqL K H pl (ts.map vS)) (h3 : ts.drop i = l) (h4 : ts.length ≤ 1000) (h5 : ∀ t ∈ ts, t ≠ [] ∧ t.length ≤ 1000) {H1 : Hp} (e : Ex H H1) :
    ExP r H (upd H1 r (.ins C dx (rdF pl ((i : Int) + 1)))) ∧ RdSt K C (upd H1 r (.ins C dx (rdF pl ((i : Int) + 1)))) r l.tail := by
  have e2 : ExP r H (upd H1 r (.ins C dx (rdF pl ((i : Int) + 1)))) := (ExP.of e).trans .put
  refine ⟨e2, h.cls, dx, pl, ts, i + 1, ?_, e2.sql h1 h2, ?_, h4, h5⟩
  · rw [upd_same]; rfl
  · rw [← h3, List.tail_drop]
theorem ev_fld {σ : L2.St} {te : TE} {C a dx : Addr} {fs : List (Str × V)} {f : Str} {v : V} (h : Ev te σ H (.ref a)) (hs : H a = some (.ins C dx fs)) (hc : Cls K C) (hn : NoAttr K C f) (hv : fs.lookup f = some v) : Ev (tFld K te f) σ H v :=
  fun H1 e Q q => h H1 e _ fun H2 e2 => ⟨a, C, dx, fs, v, rfl, e2 _ _ (e _ _ hs), hc, hn, hv, q H2 e2⟩
def sp_ahead (K : PySem.W.Frag) (C : Addr) : Sp := fun vs H Q _ => ∃ r l, vs = [.ref r] ∧ RdSt K C H r l ∧ ∀ H', Ex H H' → Q (vS (hd l)) H'
def sp_take (K : PySem.W.Frag) (C : Addr) : Sp := fun vs H Q _ => ∃ r l, vs = [.ref r] ∧ RdSt K C H r l ∧ ∀ H', ExP r H H' → RdSt K C H' r l.tail → Q (vS (hd l)) H'
def sp_skip (K : PySem.W.Frag) (C : Addr) : Sp := fun vs H Q _ => ∃ r l t, vs = [.ref r, vS t] ∧ RdSt K C H r l ∧ ∀ H', ExP r H H' → RdSt K C H' r (if hd l = t then l.tail else l) → Q (.bl (decide (hd l = t))) H'
def sp_demand (K : PySem.W.Frag) (C CB : Addr) : Sp := fun vs H Q E => ∃ r l t, vs = [.ref r, vS t] ∧ RdSt K C H r l ∧ (hd l = t → ∀ H', ExP r H H' → RdSt K C H' r l.tail → Q .non H') ∧ (hd l ≠ t → ∀ H', ExP r H H' → ∀ d, ErrAt K CB d H' → E (.ref CB) (some d) H')
def sp_check_end (K : PySem.W.Frag) (C CB : Addr) : Sp := fun vs H Q E => ∃ r l, vs = [.ref r] ∧ RdSt K C H r l ∧ (l = [] → ∀ H', Ex H H' → Q .non H') ∧ (l ≠ [] → ∀ H', Ex H H' → ∀ d, ErrAt K CB d H' → E (.ref CB) (some d) H')
def pDeeper (CB : Addr) : V → Hp → VP → WP → Prop := fun x H R W => ∃ m : Nat, x = .int (30 - (m : Int)) ∧ m ≤ 30 ∧ (m = 0 → W CB) ∧ (∀ n, m = n + 1 → ∀ H', R (.int (30 - (n : Int))) H')
def sp_deeper (K : PySem.W.Frag) (CB : Addr) : Sp := spX1 K (pDeeper CB)
def pIsName : V → Hp → VP → Prop := fun x H R => ∃ t, x = vS t ∧ t.length ≤ 100000 ∧ R = fun v _ => v = .bl (isName t)
def sp_is_name (K : PySem.W.Frag) : Sp := spF1 pIsName
def pIsInt : V → Hp → VP → Prop := fun x H R => ∃ t, x = vS t ∧ t.length ≤ 100000 ∧ R = fun v _ => v = .bl (isInt t)
def sp_is_integer (K : PySem.W.Frag) : Sp := spF1 pIsInt
/-- what is told of one way of reading -/
def spRd (K : PySem.W.Frag) (C CB : Addr) (p : Nat → PR) (d : Nat) : Sp := fun vs H Q E => ∃ r l m, vs = [.ref r, .int (30 - ((m : Nat) : Int))] ∧ RdSt K C H r l ∧ m ≤ 30 ∧ m < d ∧
  (∀ t l', p m l = some (t, l') → ∀ v H', ExP r H H' → RdSt K C H' r l' → FmV K H' v t → Q v H') ∧ (p m l = none → ∀ H', ExP r H H' → ∀ d, ErrAt K CB d H' → E (.ref CB) (some d) H')
def sp_read_sum (K : PySem.W.Frag) (C CB : Addr) (d : Nat) : Sp := spRd K C CB rdSum d
def sp_read_product (K : PySem.W.Frag) (C CB : Addr) (d : Nat) : Sp := spRd K C CB rdProd d
def sp_read_sign (K : PySem.W.Frag) (C CB : Addr) (d : Nat) : Sp := spRd K C CB rdSign d
def sp_read_part (K : PySem.W.Frag) (C CB : Addr) (d : Nat) : Sp := spRd K C CB rdPart d
/-- the tuple of one tree or of two -/
def argsP (m : Nat) : Nat → Ts → Option (List Fm × Ts)
  | 1, l => (args1 (rdSum m) l).map fun x => ([x.1], x.2)
  | _, l => (args2 (rdSum m) l).map fun x => ([x.1.1, x.1.2], x.2)
def sp_read_args (K : PySem.W.Frag) (C CB : Addr) (d : Nat) : Sp := fun vs H Q E => ∃ r l m n, vs = [.ref r, .int (30 - ((m : Nat) : Int)), .int ((n : Nat) : Int)] ∧ RdSt K C H r l ∧ m ≤ 30 ∧ m < d ∧ (n = 1 ∨ n = 2) ∧
  (∀ ts l', argsP m n l = some (ts, l') → ∀ v H', ExP r H H' → RdSt K C H' r l' → Dp K H' v (.tuple (ts.map Fm.data)) → Q v H') ∧ (argsP m n l = none → ∀ H', ExP r H H' → ∀ d, ErrAt K CB d H' → E (.ref CB) (some d) H')
theorem vac_rd {p : Nat → PR} {CB : Addr} {vs : List V} {Q : VK} {E : XK} (h : spRd K C CB p 0 vs H Q E) : False := by obtain ⟨_, _, _, _, _, _, h, _⟩ := h; exact Nat.not_lt_zero _ h
theorem vac_args {CB : Addr} {vs : List V} {Q : VK} {E : XK} (h : sp_read_args K C CB 0 vs H Q E) : False := by obtain ⟨_, _, _, _, _, _, _, h, _⟩ := h; exact Nat.not_lt_zero _ h
variable {CB : Addr} {vs : List V} {Q : VK} {E : XK}
theorem rdlen_lv {p : Nat → PR} {d : Nat} (h : spRd K C CB p d vs H Q E) : vs.length = 2 := by obtain ⟨_, _, _, rfl, _⟩ := h; rfl
theorem rdlen_args {d : Nat} (h : sp_read_args K C CB d vs H Q E) : vs.length = 3 := by obtain ⟨_, _, _, _, rfl, _⟩ := h; rfl
theorem rdlen_ahead (h : sp_ahead K C vs H Q E) : vs.length = 1 := by obtain ⟨_, _, rfl, _⟩ := h; rfl
theorem rdlen_take (h : sp_take K C vs H Q E) : vs.length = 1 := by obtain ⟨_, _, rfl, _⟩ := h; rfl
theorem rdlen_skip (h : sp_skip K C vs H Q E) : vs.length = 2 := by obtain ⟨_, _, _, rfl, _⟩ := h; rfl
theorem rdlen_demand (h : sp_demand K C CB vs H Q E) : vs.length = 2 := by obtain ⟨_, _, _, rfl, _⟩ := h; rfl
theorem rdlen_end (h : sp_check_end K C CB vs H Q E) : vs.length = 1 := by obtain ⟨_, _, rfl, _⟩ := h; rfl
def t_is_name (K : PySem.W.Frag) (a_KEYWORDS : Addr) (a_FUNCTIONS : Addr) : TS := (tSeq (tIfS (tOr (tTest (tOp (rInKD a_FUNCTIONS functionsL) (tVar 0) (tC (.ref a_FUNCTIONS)))) (tTest (tOp (rIn K false) (tVar 0) (tC (.ref a_KEYWORDS))))) (tRet (tC (.bl false))) tNext)
    (tRet (tAndV (tChain xLe xLe (tC (.int 1)) (tCB xLenS (tCons (tVar 0) tNil)) (tC (.int 4))) (tOp rEq (tCall (sp_run_of K) [] E0 (tCons (tC (.str "abcdefghijklmnopqrstuvwxyz")) (tCons (tVar 0) (tCons (tC (.int 0)) tNil)))) (tVar 0)))))
def t_is_integer (K : PySem.W.Frag) : TS := (tSeq (tIfS (tAnd (tTest (tOp rEq (tSl rSlS (tVar 0) tNoPart (tPart (tC (.int 1)))) (tC (.str "0")))) (tTest (tOp rNe (tVar 0) (tC (.str "0"))))) (tRet (tC (.bl false))) tNext)
    (tRet (tAndV (tChain xLe xLe (tC (.int 1)) (tCB xLenS (tCons (tVar 0) tNil)) (tC (.int 18))) (tOp rEq (tCall (sp_run_of K) [] E0 (tCons (tC (.str "0123456789")) (tCons (tVar 0) (tCons (tC (.int 0)) tNil)))) (tVar 0)))))
def t_deeper (K : PySem.W.Frag) (a_BadForm : Addr) (E : XK) : TS := (tSeq (tIfS (tTest (tOp rEq (tVar 0) (tC (.int 30)))) (tRaise K E a_BadForm) tNext)
    (tRet (tOp xAdd (tVar 0) (tC (.int 1)))))
theorem ev_runW {σ : L2.St} {te tf : TE} {cs l : List Nat} (h : Ev te σ H (vS cs)) (h1 : Ev tf σ H (vS l)) (hl : l.length ≤ 100000) : Ev (tCall (sp_run_of K) [] E0 (tCons te (tCons tf (tCons (tC (.int 0)) tNil)))) σ H (vS (l.takeWhile fun c => decide (c ∈ cs))) :=
  ev_er ((er_call3 (er_is h) monoC (er_is h1) monoC (er_is (ev_c (v := .int ((0 : Nat) : Int)))) monoC fun v w z H1 e1 g1 g2 g3 => ⟨cs, l, 0, g1, g2, g3, Nat.zero_le _, hl, rfl⟩).imp fun v H2 e2 g => g)
theorem takeWhile_self {P : Nat → Bool} {l : List Nat} : decide (l.takeWhile P = l) = l.all P := by
  rw [Bool.eq_iff_iff, decide_eq_true_eq, List.all_eq_true]
  constructor
  · intro h x hx
    rw [← h] at hx
    exact Tk.mem_takeWhile hx
  · intro h
    induction l with
    | nil => rfl
    | cons a l ih =>
      rw [List.takeWhile_cons, if_pos (h a List.mem_cons_self), ih fun x hx => h x (List.mem_cons_of_mem _ hx)]
theorem ev_chainL {σ : L2.St} {ta tb tc : TE} {i j k : Int} (ha : Ev ta σ H (.int i)) (hb : Ev tb σ H (.int j)) (hc : Ev tc σ H (.int k)) : Ev (tChain xLe xLe ta tb tc) σ H (.bl (decide (i ≤ j) && decide (j ≤ k))) := fun H1 e Q q =>
  ha H1 e _ fun H2 e2 => hb H2 (e.trans e2) _ fun H3 e3 => ⟨i, j, rfl, rfl, decide (i ≤ j), rfl, by
    by_cases h : i ≤ j
    · rw [if_pos (decide_eq_true h)]
      refine hc H3 (e.trans (e2.trans e3)) _ fun H4 e4 => ⟨j, k, rfl, rfl, ?_⟩
      have := q H4 (e2.trans (e3.trans e4))
      rw [decide_eq_true h, Bool.true_and] at this
      exact this
    · rw [if_neg (by rw [decide_eq_false h]; decide)]
      have := q H3 (e2.trans e3)
      rw [decide_eq_false h, Bool.false_and] at this
      exact this⟩
theorem vS_len {t : List Nat} (n : Nat) : (decide ((1 : Int) ≤ (t.length : Int)) && decide ((t.length : Int) ≤ (n : Int))) = decide (1 ≤ t.length ∧ t.length ≤ n) := by
  rw [Bool.eq_iff_iff, Bool.and_eq_true, decide_eq_true_eq, decide_eq_true_eq, decide_eq_true_eq]; omega
theorem ev_neW {σ : L2.St} {te tf : TE} {l m : List Nat} (ha : Ev te σ H (vS l)) (hb : Ev tf σ H (vS m)) : Ev (tOp rNe te tf) σ H (.bl (!decide (l = m))) := by
  have := ev_ne ha hb rfl
  rw [vS_dec] at this
  exact this
theorem ev_inKw {σ : L2.St} {te : TE} {aK : Addr} (hK : KwAt K aK) {t : List Nat} (h : Ev te σ H (vS t)) : Ev (tOp (rIn K false) te (tC (.ref aK))) σ H (.bl (decide (t ∈ kws))) := by
  have := ev_op (r := rIn K false) h (ev_c (v := .ref aK)) (rv_isT (kw_sq hK H) rfl (by decide +kernel))
  rw [in_kw] at this
  exact this
theorem pure_is_name {aK aF : Addr} (hK : KwAt K aK) {vs : List V} {Q : VK} {E : XK} (h : sp_is_name K vs H Q E) : t_is_name K aK aF { nx := fun _ H' => Q .non H', rt := Q } (start ["word"] vs) H := by
  obtain ⟨x, R, rfl, ⟨t, rfl, hz, rfl⟩, k⟩ := h
  have hn : isName t = (!(isFn t || decide (t ∈ kws)) && (decide (1 ≤ t.length ∧ t.length ≤ 4) && t.all fun c => decide (c ∈ small))) := rfl
  refine q_when (b := isFn t || decide (t ∈ kws)) (et_or (et_test (by rw [← lk_fn]; exact ev_inKD (ev_var rfl))) fun _ => et_test (ev_inKw hK (ev_var rfl))) (fun hb H1 e1 => ?_) fun hb H1 e1 => ?_
  · refine s_ret ev_c fun H2 e2 => k _ _ (e1.trans e2) ?_
    rw [hn, hb]; rfl
  · refine s_ret (ev_andV (ev_chainL ev_c (ev_lenS (ev_var rfl) hz) ev_c) fun _ => ev_eqS (ev_runW (l := t) (cs := small) ev_c (ev_var rfl) hz) (ev_var rfl)) fun H2 e2 => k _ _ (e1.trans e2) ?_
    rw [hn, hb, takeWhile_self]
    rw [show (decide ((1 : Int) ≤ (t.length : Int)) && decide ((t.length : Int) ≤ 4)) = decide (1 ≤ t.length ∧ t.length ≤ 4) from vS_len 4]
    rfl
theorem pure_is_integer {vs : List V} {Q : VK} {E : XK} (h : sp_is_integer K vs H Q E) : t_is_integer K { nx := fun _ H' => Q .non H', rt := Q } (start ["word"] vs) H := by
  obtain ⟨x, R, rfl, ⟨t, rfl, hz, rfl⟩, k⟩ := h
  have hn : isInt t = (!(decide (t.take 1 = [48]) && !decide (t = [48])) && (decide (1 ≤ t.length ∧ t.length ≤ 18) && t.all fun c => decide (c ∈ Tk.digits))) := rfl
  have hcut : Ev (tSl rSlS (tVar 0) tNoPart (tPart (tC (.int 1)))) (start ["word"] [vS t]) H (vS (t.take 1)) := by
    have := ev_slS (l := t) (ev_var (σ := start ["word"] [vS t]) (H := H) (i := 0) rfl) eo_none (eo_some (ev_c (v := .int ((1 : Nat) : Int)))) hz
    have e : ((t.drop (HT.sIx t.length 0 none)).take (HT.sIx t.length t.length (some ((1 : Nat) : Int)) - HT.sIx t.length 0 none)) = t.take 1 := by
      rw [HT.sIx_nat]
      show (t.drop 0).take (min 1 t.length - 0) = t.take 1
      rw [List.drop_zero, Nat.sub_zero]
      cases t with
      | nil => rfl
      | cons a l => rw [Nat.min_eq_left (by rw [List.length_cons]; omega)]
    rw [e] at this
    exact this
  refine q_when (b := decide (t.take 1 = [48]) && !decide (t = [48])) (et_and (et_test (ev_eqS hcut ev_c)) fun _ => et_test (ev_neW (m := [48]) (ev_var rfl) ev_c)) (fun hb H1 e1 => ?_) fun hb H1 e1 => ?_
  · refine s_ret ev_c fun H2 e2 => k _ _ (e1.trans e2) ?_
    rw [hn, hb]; rfl
  · refine s_ret (ev_andV (ev_chainL ev_c (ev_lenS (ev_var rfl) hz) ev_c) fun _ => ev_eqS (ev_runW (l := t) (cs := Tk.digits) ev_c (ev_var rfl) hz) (ev_var rfl)) fun H2 e2 => k _ _ (e1.trans e2) ?_
    rw [hn, hb, takeWhile_self]
    rw [show (decide ((1 : Int) ≤ (t.length : Int)) && decide ((t.length : Int) ≤ 18)) = decide (1 ≤ t.length ∧ t.length ≤ 18) from vS_len 18]
    rfl
theorem pure_deeper {CB : Addr} {vs : List V} {Q : VK} {E : XK} (h : sp_deeper K CB vs H Q E) : t_deeper K CB E { nx := fun _ H' => Q .non H', rt := Q } (start ["level"] vs) H := by
  obtain ⟨x, R, W, rfl, ⟨m, rfl, hm, h0, h1⟩, k, kw⟩ := h
  refine q_when (b := decide (m = 0)) (et_test ?_) (fun hb H1 e1 => ?_) fun hb H1 e1 => ?_
  · have := ev_eq (H := H) (σ := start ["level"] [V.int (30 - (m : Int))]) (ev_var (i := 0) rfl) (ev_c (v := .int 30)) rfl
    rw [show decide (V.int (30 - (m : Int)) = V.int 30) = decide (m = 0) from by
      rw [Bool.eq_iff_iff, decide_eq_true_eq, decide_eq_true_eq]
      exact ⟨fun q => by have := V.int.inj q; omega, fun q => by subst q; rfl⟩] at this
    exact this
  · exact fun H2 e2 d hd => kw _ _ (e1.trans e2) (h0 (of_decide_eq_true hb)) d hd
  · obtain ⟨n, rfl⟩ : ∃ n, m = n + 1 := ⟨m - 1, by have := of_decide_eq_false hb; omega⟩
    refine s_ret (ev_add (ev_var rfl) ev_c) fun H2 e2 => k _ _ (e1.trans e2) ?_
    rw [show (30 : Int) - ((n + 1 : Nat) : Int) + 1 = 30 - (n : Int) from by omega]
    exact h1 n rfl H2
end
end Sk
set_option Elab.async false
set_option linter.all false
set_option maxRecDepth 100000
set_option maxHeartbeats 1000000
namespace Sk
open PySem L2 Evl Rd
section
variable {K : PySem.W.Frag} {C r : Addr} {H H' : Hp} {l : Ts} {σ : L2.St} {te tf : TE} {m : Str} {sp : Sp} {E : XK} {Q : VK}
def rdN (m : Str) : Prop := ∀ pl i, (rdF pl i).lookup m = none
theorem rdn {m : Str} (h1 : ((m == ("parts" : Str)) = false)) (h2 : ((m == ("at" : Str)) = false)) : rdN m := fun pl i => by
  unfold rdF
  rw [List.lookup_cons, h1, List.lookup_cons, h2]
  rfl
/-- a call of a method of the reader -/
theorem x_meth0 (h : Ev te σ H (.ref r)) (hs : RdSt K C H r l) (hm : rdN m) (k : ∀ H1, Ex H H1 → RdSt K C H1 r l → sp [.ref r] H1 Q E) : tMeth C m sp [] E te tNil σ H Q := by
  refine h H (Ex.refl H) _ fun H1 e1 => ?_
  obtain ⟨dx, pl, ts, i, h1, _⟩ := (hs.ex e1).out
  exact ⟨r, dx, _, rfl, h1, hm _ _, k H1 e1 (hs.ex e1)⟩
theorem x_meth1 {v : V} (h : Ev te σ H (.ref r)) (hf : Ev tf σ H v) (hs : RdSt K C H r l) (hm : rdN m) (k : ∀ H1, Ex H H1 → RdSt K C H1 r l → sp [.ref r, v] H1 Q E) : tMeth C m sp [] E te (tCons tf tNil) σ H Q := by
  refine h H (Ex.refl H) _ fun H1 e1 => ?_
  obtain ⟨dx, pl, ts, i, h1, _⟩ := (hs.ex e1).out
  exact ⟨r, dx, _, rfl, h1, hm _ _, hf H1 e1 _ fun H2 e2 => k H2 (e1.trans e2) (hs.ex (e1.trans e2))⟩
theorem ev_ahead (h : Ev te σ H (.ref r)) (hs : RdSt K C H r l) : Ev (tMeth C "ahead" (sp_ahead K C) [] E te tNil) σ H (vS (hd l)) := fun H1 e1 Q q =>
  x_meth0 (h.mono e1) (hs.ex e1) (rdn (by decide +kernel) (by decide +kernel)) fun H2 e2 hs2 => ⟨r, l, rfl, hs2, fun H3 e3 => q H3 (e2.trans e3)⟩
theorem x_take (h : Ev te σ H (.ref r)) (hs : RdSt K C H r l) (k : ∀ H1, ExP r H H1 → RdSt K C H1 r l.tail → Q (vS (hd l)) H1) : tMeth C "take" (sp_take K C) [] E te tNil σ H Q :=
  x_meth0 h hs (rdn (by decide +kernel) (by decide +kernel)) fun H2 e2 hs2 => ⟨r, l, rfl, hs2, fun H3 e3 => k H3 ((ExP.of e2).trans e3)⟩
theorem x_skip {t : List Nat} (h : Ev te σ H (.ref r)) (hf : Ev tf σ H (vS t)) (hs : RdSt K C H r l) (k : ∀ H1, ExP r H H1 → RdSt K C H1 r (if hd l = t then l.tail else l) → Q (.bl (decide (hd l = t))) H1) : tMeth C "skip" (sp_skip K C) [] E te (tCons tf tNil) σ H Q :=
  x_meth1 h hf hs (rdn (by decide +kernel) (by decide +kernel)) fun H2 e2 hs2 => ⟨r, l, t, rfl, hs2, fun H3 e3 => k H3 ((ExP.of e2).trans e3)⟩
theorem x_demand {CB : Addr} {t : List Nat} (h : Ev te σ H (.ref r)) (hf : Ev tf σ H (vS t)) (hs : RdSt K C H r l) (k : hd l = t → ∀ H1, ExP r H H1 → RdSt K C H1 r l.tail → Q .non H1) (kw : hd l ≠ t → ∀ H1, ExP r H H1 → ∀ d, ErrAt K CB d H1 → E (.ref CB) (some d) H1) :
    tMeth C "demand" (sp_demand K C CB) [] E te (tCons tf tNil) σ H Q :=
  x_meth1 h hf hs (rdn (by decide +kernel) (by decide +kernel)) fun H2 e2 hs2 => ⟨r, l, t, rfl, hs2, fun q H3 e3 => k q H3 ((ExP.of e2).trans e3), fun q H3 e3 => kw q H3 ((ExP.of e2).trans e3)⟩
theorem x_check_end {CB : Addr} (h : Ev te σ H (.ref r)) (hs : RdSt K C H r l) (k : l = [] → ∀ H1, Ex H H1 → Q .non H1) (kw : l ≠ [] → ∀ H1, Ex H H1 → ∀ d, ErrAt K CB d H1 → E (.ref CB) (some d) H1) :
    tMeth C "check_end" (sp_check_end K C CB) [] E te tNil σ H Q :=
  x_meth0 h hs (rdn (by decide +kernel) (by decide +kernel)) fun H2 e2 hs2 => ⟨r, l, rfl, hs2, fun q H3 e3 => k q H3 (e2.trans e3), fun q H3 e3 => kw q H3 (e2.trans e3)⟩
/-- self.at += 1 -/
theorem s_step {D : Ends} (h : Ev te σ H (.ref r)) (hs : RdSt K C H r l) (k : ∀ H1, ExP r H H1 → RdSt K C H1 r l.tail → D.nx σ H1) : sFldAug K te (tC (.int 1)) rAdd "at" D σ H := by
  obtain ⟨dx, pl, ts, i, h1, h2, h3, h4, h5⟩ := hs.out
  refine h H (Ex.refl H) _ fun H1 e1 => ⟨r, C, dx, _, _, rfl, e1 _ _ h1, hs.cls.cl, hs.cls.nA, rd_at _ _, _, _, rfl, rfl, dx, _, e1 _ _ h1, by show 2 < 1000; decide, ?_⟩
  rw [rd_put]
  have := hs.next h1 h2 h3 h4 h5 e1
  exact k _ this.1 this.2
theorem q_step {D : Ends} {tz : TS} (h : Ev te σ H (.ref r)) (hs : RdSt K C H r l) (k : ∀ H1, ExP r H H1 → RdSt K C H1 r l.tail → tz D σ H1) : tSeq (sFldAug K te (tC (.int 1)) rAdd "at") tz D σ H := s_step (D := { D with nx := tz D }) h hs k
def t_Reader_init (K : PySem.W.Frag) (a_BadForm : Addr) (a_Reader : Addr) (E : XK) : TS := (tSeq (sFld K (tVar 0) (tCall (sp_tokens K a_BadForm) [] E (tCons (tVar 1) tNil)) "parts")
    (sFld K (tVar 0) (tC (.int 0)) "at"))
def t_Reader_ahead (K : PySem.W.Frag) (a_Reader : Addr) : TS := (tRet (tIf (tTest (tOp xLt (tFld K (tVar 0) "at") (tCB (rLenS K) (tCons (tFld K (tVar 0) "parts") tNil)))) (tOp (rIxL K) (tFld K (tVar 0) "parts") (tFld K (tVar 0) "at")) (tC (.str ""))))
def t_Reader_take (K : PySem.W.Frag) (a_Reader : Addr) : TS := (tSeq (tAsg (tMeth a_Reader "ahead" (sp_ahead K a_Reader) [] E0 (tVar 0) tNil) (gName 1))
    (tSeq (sFldAug K (tVar 0) (tC (.int 1)) rAdd "at")
    (tRet (tVar 1))))
def t_Reader_skip (K : PySem.W.Frag) (a_Reader : Addr) : TS := (tSeq (tAsg (tOp rEq (tMeth a_Reader "ahead" (sp_ahead K a_Reader) [] E0 (tVar 0) tNil) (tVar 1)) (gName 2))
    (tSeq (tIfS (tB (tVar 2)) (sFldAug K (tVar 0) (tC (.int 1)) rAdd "at") tNext)
    (tRet (tVar 2))))
def t_Reader_demand (K : PySem.W.Frag) (a_BadForm : Addr) (a_Reader : Addr) (E : XK) : TS := (tIfS (tNot (tB (tMeth a_Reader "skip" (sp_skip K a_Reader) [] E0 (tVar 0) (tCons (tVar 1) tNil)))) (tRaise K E a_BadForm) tNext)
def t_Reader_check_end (K : PySem.W.Frag) (a_BadForm : Addr) (a_Reader : Addr) (E : XK) : TS := (tIfS (tTest (tOp rNe (tMeth a_Reader "ahead" (sp_ahead K a_Reader) [] E0 (tVar 0) tNil) (tC (.str "")))) (tRaise K E a_BadForm) tNext)
theorem pure_Reader_ahead {vs : List V} (h : sp_ahead K C vs H Q E) : t_Reader_ahead K C { nx := fun _ H' => Q .non H', rt := Q } (start ["self"] vs) H := by
  obtain ⟨r, l, rfl, hs, k⟩ := h
  obtain ⟨dx, pl, ts, i, h1, h2, h3, h4, h5⟩ := hs.out
  have fa : Ev (tFld K (tVar 0) "at") (start ["self"] [.ref r]) H (.int (i : Int)) := ev_fld (ev_var rfl) h1 hs.cls.cl hs.cls.nA (rd_at _ _)
  have fp : Ev (tFld K (tVar 0) "parts") (start ["self"] [.ref r]) H (.ref pl) := ev_fld (ev_var rfl) h1 hs.cls.cl hs.cls.nP (rd_parts _ _)
  refine s_ret (ev_if (et_test (ev_lt fa (ev_lenL fp h2))) (fun hb => ?_) fun hb => ?_) fun H1 e1 => k H1 e1
  · have hi : i < ts.length := by have := of_decide_eq_true hb; rw [List.length_map] at this; omega
    refine ev_at fp fa h2 (atI_n ?_)
    rw [List.getElem?_map, List.getElem?_eq_getElem hi, ← h3]
    unfold hd
    rw [List.headD_eq_head?_getD, List.head?_drop, List.getElem?_eq_getElem hi]
    rfl
  · have hi : ts.length ≤ i := by have := of_decide_eq_false hb; rw [List.length_map] at this; omega
    rw [← h3, List.drop_eq_nil_of_le hi]
    exact ev_c
theorem pure_Reader_take {vs : List V} (h : sp_take K C vs H Q E) : t_Reader_take K C { nx := fun _ H' => Q .non H', rt := Q } (start ["self", "token"] vs) H := by
  obtain ⟨r, l, rfl, hs, k⟩ := h
  refine q_asg (ev_ahead (ev_var rfl) hs) fun H1 e1 => q_step (ev_var rfl) (hs.ex e1) fun H2 e2 hs2 => s_ret (ev_var rfl) fun H3 e3 => k H3 ((ExP.of e1).trans (e2.trans (.of e3))) (hs2.ex e3)
theorem pure_Reader_skip {vs : List V} (h : sp_skip K C vs H Q E) : t_Reader_skip K C { nx := fun _ H' => Q .non H', rt := Q } (start ["self", "token", "found"] vs) H := by
  obtain ⟨r, l, t, rfl, hs, k⟩ := h
  refine q_asg (ev_eqS (ev_ahead (ev_var rfl) hs) (ev_var rfl)) fun H1 e1 => ?_
  refine q_when (b := decide (hd l = t)) (et_B (ev_var rfl)) (fun hb H2 e2 => ?_) fun hb H2 e2 => ?_
  · refine s_step (ev_var rfl) (hs.ex (e1.trans e2)) fun H3 e3 hs3 => s_ret (ev_var rfl) fun H4 e4 => k H4 ((ExP.of (e1.trans e2)).trans (e3.trans (.of e4))) ?_
    rw [if_pos (of_decide_eq_true hb)]
    exact hs3.ex e4
  · refine s_ret (ev_var rfl) fun H4 e4 => k H4 (.of (e1.trans (e2.trans e4))) ?_
    rw [if_neg (of_decide_eq_false hb)]
    exact hs.ex (e1.trans (e2.trans e4))
theorem pure_Reader_demand {CB : Addr} {vs : List V} (h : sp_demand K C CB vs H Q E) : t_Reader_demand K CB C E { nx := fun _ H' => Q .non H', rt := Q } (start ["self", "token"] vs) H := by
  obtain ⟨r, l, t, rfl, hs, k, kw⟩ := h
  show tMeth C "skip" (sp_skip K C) [] E0 (tVar 0) (tCons (tVar 1) tNil) _ H _
  refine x_skip (t := t) (ev_var rfl) (ev_var rfl) hs fun H1 e1 hs1 => ?_
  by_cases hb : hd l = t
  · rw [if_pos hb] at hs1
    rw [decide_eq_true hb]
    exact ⟨true, rfl, k hb H1 e1 hs1⟩
  · rw [decide_eq_false hb]
    exact ⟨false, rfl, fun H2 e2 d hd => kw hb H2 (e1.trans (.of e2)) d hd⟩
theorem pure_Reader_check_end {CB : Addr} {vs : List V} (h : sp_check_end K C CB vs H Q E) : t_Reader_check_end K CB C E { nx := fun _ H' => Q .non H', rt := Q } (start ["self"] vs) H := by
  obtain ⟨r, l, rfl, hs, k, kw⟩ := h
  refine s_when (b := !decide (hd l = [])) (et_test (ev_neW (m := []) (ev_ahead (ev_var rfl) hs) ev_c)) (fun hb H1 e1 => ?_) fun hb H1 e1 => ?_
  · exact fun H2 e2 d hd => kw (fun q => by subst q; exact absurd hb (by decide)) H2 (e1.trans e2) d hd
  · refine k (hs.hd_nil.mp ?_) H1 e1
    by_cases q : hd l = []
    · exact q
    · rw [decide_eq_false q] at hb; cases hb
end
end Sk
set_option Elab.async false
set_option linter.all false
set_option maxRecDepth 100000
set_option maxHeartbeats 1000000
namespace Sk
open PySem L2 Evl Rd
theorem toks_ok {l : List Nat} {o} (h : Tk.Toks l o) : ∀ ts, o = some ts → ts.length ≤ l.length ∧ ∀ t ∈ ts, t ≠ [] ∧ t.length ≤ l.length := by
  induction h with
  | nil => intro ts h; cases h; exact ⟨Nat.le_refl _, fun t ht => by cases ht⟩
  | sp h ih => intro ts h; obtain ⟨h1, h2⟩ := ih ts h; exact ⟨Nat.le_succ_of_le h1, fun t ht => ⟨(h2 t ht).1, Nat.le_succ_of_le (h2 t ht).2⟩⟩
  | tok hc ht h ih =>
    rename_i c r t o
    intro ts h
    cases o with
    | none => cases h
    | some us =>
      cases h
      obtain ⟨h1, h2⟩ := ih us rfl
      obtain ⟨a1, a2, a3⟩ := Tk.tk_ok ht
      have p : 0 < t.length := List.length_pos_iff.mpr a2
      have q : t.length ≤ (c :: r).length := by rw [← a1, List.length_take]; omega
      rw [List.length_drop] at h1 h2
      refine ⟨by rw [List.length_cons]; omega, fun u hu => ?_⟩
      rcases List.mem_cons.mp hu with rfl | hu
      · exact ⟨a2, q⟩
      · exact ⟨(h2 u hu).1, by have := (h2 u hu).2; omega⟩
  | bad => intro ts h; cases h
section
variable {K : PySem.W.Frag} {C r CB : Addr} {H H' : Hp} {l : Ts} {σ : L2.St} {te tf : TE} {m : Str} {sp : Sp} {E : XK} {Q : VK}
/-- a text's tokens, when it is read -/
def Toks1 (txt : List Nat) (o : Option Ts) : Prop := (1000 < txt.length ∧ o = none) ∨ (txt.length ≤ 1000 ∧ Tk.Toks txt o)
def sp_rd_init (K : PySem.W.Frag) (C CB : Addr) : Sp := fun vs H Q E => ∃ r dx txt o, vs = [.ref r, vS txt] ∧ RdC K C ∧ H r = some (.ins C dx []) ∧ txt.length ≤ 100000 ∧ Toks1 txt o ∧
  (∀ ts, o = some ts → ∀ H', ExP r H H' → RdSt K C H' r ts → Q .non H') ∧ (o = none → ∀ H', ExP r H H' → ∀ d, ErrAt K CB d H' → E (.ref CB) (some d) H')
theorem rdlen_init {vs : List V} (h : sp_rd_init K C CB vs H Q E) : vs.length = 2 := by obtain ⟨_, _, _, _, rfl, _⟩ := h; rfl
theorem pure_Reader_init {vs : List V} (h : sp_rd_init K C CB vs H Q E) : t_Reader_init K CB C E { nx := fun _ H' => Q .non H', rt := Q } (start ["self", "text"] vs) H := by
  obtain ⟨r, dx, txt, o, rfl, hc, h1, hz, ho, k, kw⟩ := h
  show tCall (sp_tokens K CB) [] E (tCons (tVar 1) tNil) _ H _
  refine x_call1 (er_is (ev_var rfl)) monoC _ fun v H1 e1 g1 => ?_
  subst g1
  rcases ho with ⟨hl, rfl⟩ | ⟨hl, ho⟩
  · exact ⟨fun _ _ => False, fun c => c = CB, ⟨txt, rfl, hz, fun _ => rfl, fun q => by omega⟩, fun _ _ _ q => q.elim, fun c H2 e2 q d hd => by subst q; exact kw rfl H2 (.of (e1.trans e2)) d hd⟩
  · refine ⟨fun v H2 => ∃ ts, o = some ts ∧ StrsL K ts v H2, fun c => c = CB ∧ o = none, ⟨txt, rfl, hz, fun q => by omega, fun _ => ⟨o, ho, fun ts q v H2 g => ⟨ts, q, g⟩, fun q => ⟨rfl, q⟩⟩⟩, fun v H2 e2 g => ?_, fun c H2 e2 q d hd => by obtain ⟨rfl, q⟩ := q; exact kw q H2 (.of (e1.trans e2)) d hd⟩
    obtain ⟨ts, rfl, pl, rfl, g2⟩ := g
    obtain ⟨b1, b2⟩ := toks_ok ho ts rfl
    have e12 := e1.trans e2
    refine ⟨_, rfl, r, C, dx, _, rfl, e12 _ _ h1, hc.cl, hc.nP, by show 0 < 1000; decide, ?_⟩
    refine ⟨_, rfl, r, C, dx, _, rfl, upd_same, hc.cl, hc.nA, by show 1 < 1000; decide, ?_⟩
    rw [show putF "at" (V.int 0) (putF "parts" (V.ref pl) []) = rdF pl 0 from rd_new pl 0]
    have e3 : ExP r H2 (upd (upd H2 r (.ins C dx (putF "parts" (V.ref pl) []))) r (.ins C dx (rdF pl 0))) := ExP.put.trans .put
    refine k ts rfl _ ((ExP.of e12).trans e3) ⟨hc, dx, pl, ts, 0, upd_same, e3.sql (e12 _ _ h1) g2, rfl, by omega, fun t ht => ⟨(b2 t ht).1, by have := (b2 t ht).2; omega⟩⟩
def xIntS : List V → Hp → VK → Prop := fun xs H Q => ∃ (a : Str) (n : Int), xs = [.str a] ∧ PySem.intText? a = some n ∧ a.length ≤ 640 ∧ Q (.int n) H
def t_Reader_read_sum (K : PySem.W.Frag) (a_BadForm : Addr) (a_Reader : Addr) (a_SUMS : Addr) (E : XK) (d : Nat) : TS := (tSeq (tAsg (tMeth a_Reader "read_product" (sp_read_product K a_Reader a_BadForm (d + 1)) [] E (tVar 0) (tCons (tVar 1) tNil)) (gName 2))
    (tSeq (tWhile (tTest (tOp (rInKD a_SUMS sumsL) (tMeth a_Reader "ahead" (sp_ahead K a_Reader) [] E0 (tVar 0) tNil) (tC (.ref a_SUMS)))) (tSeq (tAsg (tOp (rIxKD a_SUMS sumsL) (tC (.ref a_SUMS)) (tMeth a_Reader "take" (sp_take K a_Reader) [] E0 (tVar 0) tNil)) (gName 3))
    (tAsg (tTup (tCons (tVar 3) (tCons (tVar 2) (tCons (tMeth a_Reader "read_product" (sp_read_product K a_Reader a_BadForm (d + 1)) [] E (tVar 0) (tCons (tVar 1) tNil)) tNil)))) (gName 2))))
    (tRet (tVar 2))))
def t_Reader_read_product (K : PySem.W.Frag) (a_BadForm : Addr) (a_Reader : Addr) (a_PRODUCTS : Addr) (E : XK) (d : Nat) : TS := (tSeq (tAsg (tMeth a_Reader "read_sign" (sp_read_sign K a_Reader a_BadForm (d + 1)) [] E (tVar 0) (tCons (tVar 1) tNil)) (gName 2))
    (tSeq (tWhile (tTest (tOp (rInKD a_PRODUCTS productsL) (tMeth a_Reader "ahead" (sp_ahead K a_Reader) [] E0 (tVar 0) tNil) (tC (.ref a_PRODUCTS)))) (tSeq (tAsg (tOp (rIxKD a_PRODUCTS productsL) (tC (.ref a_PRODUCTS)) (tMeth a_Reader "take" (sp_take K a_Reader) [] E0 (tVar 0) tNil)) (gName 3))
    (tAsg (tTup (tCons (tVar 3) (tCons (tVar 2) (tCons (tMeth a_Reader "read_sign" (sp_read_sign K a_Reader a_BadForm (d + 1)) [] E (tVar 0) (tCons (tVar 1) tNil)) tNil)))) (gName 2))))
    (tRet (tVar 2))))
/-- what both loops do -/
def t_chain (K : PySem.W.Frag) (C aK : Addr) (lK : List (Str × V)) (mN : Str) (sp : Sp) (E : XK) : TS := (tSeq (tAsg (tMeth C mN sp [] E (tVar 0) (tCons (tVar 1) tNil)) (gName 2))
    (tSeq (tWhile (tTest (tOp (rInKD aK lK) (tMeth C "ahead" (sp_ahead K C) [] E0 (tVar 0) tNil) (tC (.ref aK)))) (tSeq (tAsg (tOp (rIxKD aK lK) (tC (.ref aK)) (tMeth C "take" (sp_take K C) [] E0 (tVar 0) tNil)) (gName 3))
    (tAsg (tTup (tCons (tVar 3) (tCons (tVar 2) (tCons (tMeth C mN sp [] E (tVar 0) (tCons (tVar 1) tNil)) tNil)))) (gName 2))))
    (tRet (tVar 2))))
/-- a call of one way of reading -/
theorem x_rd {p : Nat → PR} {d k : Nat} (h : Ev te σ H (.ref r)) (hf : Ev tf σ H (.int (30 - (k : Int)))) (hs : RdSt K C H r l) (hm : rdN m) (hk : k ≤ 30) (hd : k < d)
    (q : ∀ t l', p k l = some (t, l') → ∀ v H1, ExP r H H1 → RdSt K C H1 r l' → FmV K H1 v t → Q v H1) (qw : p k l = none → ∀ H1, ExP r H H1 → ∀ d, ErrAt K CB d H1 → E (.ref CB) (some d) H1) :
    tMeth C m (spRd K C CB p d) [] E te (tCons tf tNil) σ H Q :=
  x_meth1 h hf hs hm fun H2 e2 hs2 => ⟨r, l, k, rfl, hs2, hk, hd, fun t l' ht v H3 e3 hs3 hv => q t l' ht v H3 ((ExP.of e2).trans e3) hs3 hv, fun hn H3 e3 => qw hn H3 ((ExP.of e2).trans e3)⟩
theorem fm_op3 {H : Hp} {a : Addr} {k : OpK} {w w' : V} {t u : Fm} (h : H a = some (.tup [.str k.w, w, w'])) (hw : FmV K H w t) (hw' : FmV K H w' u) : FmV K H (.ref a) (.op k t u) := dp3 (st_of h) (.str _) hw hw'
theorem pure_chain {aK : Addr} {lK : List (Str × V)} {mN : Str} {p pc : Nat → PR} {kf : List Nat → Option OpK} {d : Nat} {vs : List V} (hlk : ∀ t, lK.lookup (mkS t) = (kf t).map fun k => .str k.w) (hkf : kf [] = none) (hmN : rdN mN) (hpc : ∀ k, pc k = chain kf (p k)) (hsh : ∀ k, Short (p k))
    (h : spRd K C CB pc (d + 1) vs H Q E) : t_chain K C aK lK mN (spRd K C CB p (d + 1)) E { nx := fun _ H' => Q .non H', rt := Q } (start ["self", "level", "tree", "kind"] vs) H := by
  obtain ⟨r, l, m, rfl, hs, hm, hmd, k, kw⟩ := h
  rw [hpc] at k kw
  show tMeth C mN (spRd K C CB p (d + 1)) [] E (tVar 0) (tCons (tVar 1) tNil) _ H _
  refine x_rd (ev_var rfl) (ev_var rfl) hs hmN hm hmd (fun t l1 ht v H1 e1 hs1 hv => ?_) fun hn H1 e1 => kw (by unfold chain; rw [hn]) H1 e1
  have hch : chain kf (p m) l = loopT kf (p m) l1.length t l1 := by unfold chain; rw [ht]
  rw [hch] at k kw
  refine q_while' (fun n σ' H' => ∃ t1 l2 w z j, σ' = [some (.ref r), some (.int (30 - (m : Int))), some w, z] ∧ ExP r H H' ∧ RdSt K C H' r l2 ∧ FmV K H' w t1 ∧ n = l2.length ∧ l2.length ≤ j ∧ loopT kf (p m) l1.length t l1 = loopT kf (p m) j t1 l2) l1.length ⟨t, l1, v, none, l1.length, rfl, e1, hs1, hv, rfl, Nat.le_refl _, rfl⟩ fun n σ' H2 => ?_
  rintro ⟨t1, l2, w, z, j, rfl, e2, hs2, hw, rfl, hj, hX⟩
  refine ⟨(lK.lookup (mkS (hd l2))).isSome, et_test (ev_inKD (ev_ahead (ev_var rfl) hs2)), fun hb H3 e3 => ?_, fun hb H3 e3 => ?_⟩
  · have hs3 := hs2.ex e3
    rw [hlk] at hb
    obtain ⟨kk, hk⟩ : ∃ kk, kf (hd l2) = some kk := by
      cases q : kf (hd l2) with
      | none => rw [q] at hb; cases hb
      | some kk => exact ⟨kk, rfl⟩
    have hne : hd l2 ≠ [] := fun q => by rw [q, hkf] at hk; cases hk
    have hlt := tail_lt hne
    obtain ⟨j, rfl⟩ : ∃ i, j = i + 1 := ⟨j - 1, by omega⟩
    rw [loop_go hk] at hX
    show tMeth C "take" (sp_take K C) [] E0 (tVar 0) tNil _ H3 _
    refine x_take (ev_var rfl) hs3 fun H4 e4 hs4 => ?_
    refine ⟨mkS (hd l2), .str kk.w, rfl, rfl, by rw [hlk, hk]; rfl, ?_⟩
    refine ⟨_, rfl, _, rfl, ?_⟩
    have hw4 : FmV K H4 w t1 := ((hw.ex e3).tex (hs3.tex e4))
    refine x_rd (ev_var rfl) (ev_var rfl) hs4 hmN hm hmd (fun t2 l3 ht2 v2 H5 e5 hs5 hv2 => ?_) fun hn H5 e5 => kw (by rw [hX, hn]) H5 (e2.trans ((ExP.of e3).trans (e4.trans e5)))
    refine ⟨show 3 ≤ sizeLine from szS (by omega), fun a ha => ?_⟩
    rw [ht2] at hX
    have hsh2 := hsh m _ _ _ ht2
    refine ⟨l3.length, by omega, .op kk t1 t2, l3, .ref a, some (.str kk.w), j, rfl, e2.trans ((ExP.of e3).trans (e4.trans (e5.trans (.of (Ex.new ha))))), hs5.ex (Ex.new ha), ?_, rfl, by omega, hX⟩
    exact fm_op3 upd_same ((hw4.tex (hs4.tex e5)).ex (Ex.new ha)) (hv2.ex (Ex.new ha))
  · rw [hlk] at hb
    have hk : kf (hd l2) = none := by
      cases q : kf (hd l2) with
      | none => rfl
      | some kk => rw [q] at hb; cases hb
    refine s_ret (ev_var rfl) fun H4 e4 => k t1 l2 (by rw [hX, loop_stop hk]) w H4 (e2.trans (.of (e3.trans e4))) (hs2.ex (e3.trans e4)) (hw.ex (e3.trans e4))
theorem pure_Reader_read_sum {aK : Addr} {d : Nat} {vs : List V} (h : sp_read_sum K C CB (d + 1) vs H Q E) : t_Reader_read_sum K CB C aK E d { nx := fun _ H' => Q .non H', rt := Q } (start ["self", "level", "tree", "kind"] vs) H :=
  pure_chain (aK := aK) (lK := sumsL) (mN := "read_product") (p := rdProd) (pc := rdSum) (kf := sumK) lk_sums rfl (rdn (by decide +kernel) (by decide +kernel)) rdSum_eq prod_short h
theorem pure_Reader_read_product {aK : Addr} {d : Nat} {vs : List V} (h : sp_read_product K C CB (d + 1) vs H Q E) : t_Reader_read_product K CB C aK E d { nx := fun _ H' => Q .non H', rt := Q } (start ["self", "level", "tree", "kind"] vs) H :=
  pure_chain (aK := aK) (lK := productsL) (mN := "read_sign") (p := rdSign) (pc := rdProd) (kf := prodK) lk_products rfl (rdn (by decide +kernel) (by decide +kernel)) (fun _ => rfl) sign_short' h
end
end Sk
set_option Elab.async false
set_option linter.all false
set_option maxRecDepth 100000
set_option maxHeartbeats 1000000
namespace Sk
open PySem L2 Evl Rd
section
variable {K : PySem.W.Frag} {C r CB : Addr} {H H' : Hp} {l : Ts} {σ : L2.St} {te tf : TE} {m : Str} {sp : Sp} {E : XK} {Q : VK}
def t_Reader_read_sign (K : PySem.W.Frag) (a_BadForm : Addr) (a_Reader : Addr) (a_SIGNS : Addr) (E : XK) (d : Nat) : TS := (tSeq (tIfS (tTest (tOp (rInKD a_SIGNS signsL) (tMeth a_Reader "ahead" (sp_ahead K a_Reader) [] E0 (tVar 0) tNil) (tC (.ref a_SIGNS)))) (tSeq (tAsg (tOp (rIxKD a_SIGNS signsL) (tC (.ref a_SIGNS)) (tMeth a_Reader "take" (sp_take K a_Reader) [] E0 (tVar 0) tNil)) (gName 2))
    (tRet (tTup (tCons (tVar 2) (tCons (tMeth a_Reader "read_sign" (sp_read_sign K a_Reader a_BadForm d) [] E (tVar 0) (tCons (tCall (sp_deeper K a_BadForm) [] E (tCons (tVar 1) tNil)) tNil)) tNil))))) tNext)
    (tRet (tMeth a_Reader "read_part" (sp_read_part K a_Reader a_BadForm (d + 1)) [] E (tVar 0) (tCons (tVar 1) tNil))))
def t_Reader_read_part (K : PySem.W.Frag) (a_BadForm : Addr) (a_Reader : Addr) (a_FUNCTIONS : Addr) (E : XK) (d : Nat) : TS := (tSeq (tAsg (tMeth a_Reader "take" (sp_take K a_Reader) [] E0 (tVar 0) tNil) (gName 2))
    (tSeq (tIfS (tTest (tOp rEq (tVar 2) (tC (.str "(")))) (tSeq (tAsg (tMeth a_Reader "read_sum" (sp_read_sum K a_Reader a_BadForm d) [] E (tVar 0) (tCons (tCall (sp_deeper K a_BadForm) [] E (tCons (tVar 1) tNil)) tNil)) (gName 3))
    (tSeq (tDrop (tMeth a_Reader "demand" (sp_demand K a_Reader a_BadForm) [] E (tVar 0) (tCons (tC (.str ")")) tNil)))
    (tRet (tVar 3)))) tNext)
    (tSeq (tIfS (tTest (tOp (rInKD a_FUNCTIONS functionsL) (tVar 2) (tC (.ref a_FUNCTIONS)))) (tRet (tTup (tCons (tC (.str "call")) (tCons (tVar 2) (tCons (tMeth a_Reader "read_args" (sp_read_args K a_Reader a_BadForm d) [] E (tVar 0) (tCons (tCall (sp_deeper K a_BadForm) [] E (tCons (tVar 1) tNil)) (tCons (tOp (rIxKD a_FUNCTIONS functionsL) (tC (.ref a_FUNCTIONS)) (tVar 2)) tNil))) tNil))))) tNext)
    (tSeq (tIfS (tB (tCall (sp_is_name K) [] E0 (tCons (tVar 2) tNil))) (tRet (tTup (tCons (tC (.str "name")) (tCons (tVar 2) tNil)))) tNext)
    (tSeq (tIfS (tB (tCall (sp_is_integer K) [] E0 (tCons (tVar 2) tNil))) (tRet (tTup (tCons (tC (.str "int")) (tCons (tCB xIntS (tCons (tVar 2) tNil)) tNil)))) tNext)
    (tRaise K E a_BadForm))))))
def t_Reader_read_args (K : PySem.W.Frag) (a_BadForm : Addr) (a_Reader : Addr) (E : XK) (d : Nat) : TS := (tSeq (tDrop (tMeth a_Reader "demand" (sp_demand K a_Reader a_BadForm) [] E (tVar 0) (tCons (tC (.str "(")) tNil)))
    (tSeq (tAsg (tLst (tCons (tMeth a_Reader "read_sum" (sp_read_sum K a_Reader a_BadForm (d + 1)) [] E (tVar 0) (tCons (tVar 1) tNil)) tNil)) (gName 3))
    (tSeq (tWhile (tTest (tOp xLt (tCB (rLenS K) (tCons (tVar 3) tNil)) (tVar 2))) (tSeq (tDrop (tMeth a_Reader "demand" (sp_demand K a_Reader a_BadForm) [] E (tVar 0) (tCons (tC (.str ",")) tNil)))
    (tDrop (tBM K "list" rAppend (tVar 3) (tCons (tMeth a_Reader "read_sum" (sp_read_sum K a_Reader a_BadForm (d + 1)) [] E (tVar 0) (tCons (tVar 1) tNil)) tNil)))))
    (tSeq (tDrop (tMeth a_Reader "demand" (sp_demand K a_Reader a_BadForm) [] E (tVar 0) (tCons (tC (.str ")")) tNil)))
    (tRet (tThen (tVar 3) (kTup K)))))))
/-- one level within, or refused -/
theorem x_deeper {k : Nat} (h : Ev te σ H (.int (30 - (k : Int)))) (hk : k ≤ 30) (h0 : k = 0 → ∀ H1, Ex H H1 → ∀ d, ErrAt K CB d H1 → E (.ref CB) (some d) H1) (h1 : ∀ n, k = n + 1 → ∀ H1, Ex H H1 → Q (.int (30 - (n : Int))) H1) :
    tCall (sp_deeper K CB) [] E (tCons te tNil) σ H Q :=
  x_call1 (er_is h) monoC _ fun v H1 e1 g1 => ⟨fun w _ => ∃ n, k = n + 1 ∧ w = .int (30 - (n : Int)), fun c => c = CB ∧ k = 0, ⟨k, g1, hk, fun q => ⟨rfl, q⟩, fun n q H2 => ⟨n, q, rfl⟩⟩,
    fun w H2 e2 ⟨n, q, g⟩ => by subst g; exact h1 n q H2 (e1.trans e2), fun c H2 e2 q d hd => by obtain ⟨rfl, q⟩ := q; exact h0 q H2 (e1.trans e2) d hd⟩
/-- a method that is called one level within -/
theorem x_methD {k : Nat} {tr : TA} (h : Ev te σ H (.ref r)) (hf : Ev tf σ H (.int (30 - (k : Int)))) (hs : RdSt K C H r l) (hm : rdN m) (hk : k ≤ 30) (h0 : k = 0 → ∀ H1, Ex H H1 → ∀ d, ErrAt K CB d H1 → E (.ref CB) (some d) H1)
    (h1 : ∀ n, k = n + 1 → ∀ H1, Ex H H1 → RdSt K C H1 r l → tr σ H1 fun vs H2 => sp (.ref r :: ((V.int (30 - (n : Int)) :: vs) ++ [])) H2 Q E) :
    tMeth C m sp [] E te (tCons (tCall (sp_deeper K CB) [] E (tCons tf tNil)) tr) σ H Q := by
  refine h H (Ex.refl H) _ fun H1 e1 => ?_
  obtain ⟨dx, pl, ts, i, g1, _⟩ := (hs.ex e1).out
  refine ⟨r, dx, _, rfl, g1, hm _ _, ?_⟩
  exact x_deeper (hf.mono e1) hk (fun q H2 e2 => h0 q H2 (e1.trans e2)) fun n q H2 e2 => h1 n q H2 (e1.trans e2) (hs.ex (e1.trans e2))
theorem fm_un2 {H : Hp} {a : Addr} {k : UnK} {w : V} {t : Fm} (h : H a = some (.tup [.str k.w, w])) (hw : FmV K H w t) : FmV K H (.ref a) (.un k t) := dp2 (st_of h) (.str _) hw
theorem pure_Reader_read_sign {aK : Addr} {d : Nat} {vs : List V} (h : sp_read_sign K C CB (d + 1) vs H Q E) : t_Reader_read_sign K CB C aK E d { nx := fun _ H' => Q .non H', rt := Q } (start ["self", "level", "kind"] vs) H := by
  obtain ⟨r, l, m, rfl, hs, hm, hmd, k, kw⟩ := h
  rw [rdSign_at] at k kw
  refine q_when (b := (signsL.lookup (mkS (hd l))).isSome) (et_test (ev_inKD (ev_ahead (ev_var rfl) hs))) (fun hb H1 e1 => ?_) fun hb H1 e1 => ?_
  · rw [lk_signs] at hb
    obtain ⟨kk, hk⟩ : ∃ kk, signK (hd l) = some kk := by
      cases q : signK (hd l) with
      | none => rw [q] at hb; cases hb
      | some kk => exact ⟨kk, rfl⟩
    rw [hk] at k kw
    show tMeth C "take" (sp_take K C) [] E0 (tVar 0) tNil _ H1 _
    refine x_take (ev_var rfl) (hs.ex e1) fun H2 e2 hs2 => ?_
    refine ⟨mkS (hd l), .str kk.w, rfl, rfl, by rw [lk_signs, hk]; rfl, ?_⟩
    refine ⟨_, rfl, ?_⟩
    have e12 : ExP r H H2 := (ExP.of e1).trans e2
    refine x_methD (k := m) (ev_var rfl) (ev_var rfl) hs2 (rdn (by decide +kernel) (by decide +kernel)) hm (fun q H3 e3 => ?_) fun n q H3 e3 hs3 => ?_
    · subst q
      exact kw rfl H3 (e12.trans (.of e3))
    · subst q
      refine ⟨r, l.tail, n, rfl, hs3, by omega, by omega, fun t l' ht v H4 e4 hs4 hv => ?_, fun hn H4 e4 => kw (by show Option.map _ (rdSign n l.tail) = none; rw [hn]; rfl) H4 (e12.trans ((ExP.of e3).trans e4))⟩
      refine ⟨show 2 ≤ sizeLine from szS (by omega), fun a ha => ?_⟩
      refine k (.un kk t) l' (by show Option.map _ (rdSign n l.tail) = _; rw [ht]; rfl) (.ref a) _ (e12.trans ((ExP.of e3).trans (e4.trans (.of (Ex.new ha))))) (hs4.ex (Ex.new ha)) (fm_un2 upd_same (hv.ex (Ex.new ha)))
  · rw [lk_signs] at hb
    have hk : signK (hd l) = none := by
      cases q : signK (hd l) with
      | none => rfl
      | some kk => rw [q] at hb; cases hb
    rw [hk] at k kw
    exact x_rd (p := rdPart) (ev_var rfl) (ev_var rfl) (hs.ex e1) (rdn (by decide +kernel) (by decide +kernel)) hm hmd (fun t l' ht v H2 e2 hs2 hv => k t l' ht v H2 ((ExP.of e1).trans e2) hs2 hv) fun hn H2 e2 => kw hn H2 ((ExP.of e1).trans e2)
end
end Sk
set_option Elab.async false
set_option linter.all false
set_option maxRecDepth 100000
set_option maxHeartbeats 1000000
namespace Sk
open PySem L2 Evl Rd
section
variable {K : PySem.W.Frag} {C r CB : Addr} {H H' : Hp} {l : Ts} {σ : L2.St} {te tf : TE} {m : Str} {sp : Sp} {E : XK} {Q : VK}
theorem dpa_of : ∀ {ts : List Fm} {ys : List V}, ItemsR (fun (t : Fm) v H => FmV K H v t) ts ys H → DpAll K H ys (ts.map Fm.data)
  | [], ys, h => by
    have := h.1
    rw [List.length_nil] at this
    rw [List.length_eq_zero_iff.mp this]
    exact .nil
  | t :: ts, [], h => by have := h.1; cases this
  | t :: ts, y :: ys, h => .cons (h.2 0 y t rfl rfl) (dpa_of ⟨Nat.succ.inj h.1, fun i z u h1 h2 => h.2 (i + 1) z u h1 h2⟩)
theorem args1_at (s : PR) (l : Ts) : args1 s l = if hd l = [40] then close (s l.tail) else none := rfl
theorem args2_at (s : PR) (l : Ts) : args2 s l = if hd l = [40] then match s l.tail with
  | none => none
  | some (t, r) => if hd r = [44] then (match s r.tail with
    | none => none
    | some (u, r') => if hd r' = [41] then some ((t, u), r'.tail) else none) else none else none := rfl
/-- the last mark -/
def endA (ts : List Fm) (l : Ts) : Option (List Fm × Ts) := if hd l = [41] then some (ts, l.tail) else none
theorem argsP_no {m n : Nat} {l : Ts} (hn : n = 1 ∨ n = 2) (h : hd l ≠ [40]) : argsP m n l = none := by
  rcases hn with rfl | rfl
  · show (args1 _ _).map _ = none
    rw [args1_at, if_neg h]; rfl
  · show (args2 _ _).map _ = none
    rw [args2_at, if_neg h]; rfl
theorem argsP_none {m n : Nat} {l : Ts} (hn : n = 1 ∨ n = 2) (h : rdSum m l.tail = none) : argsP m n l = none := by
  rcases hn with rfl | rfl
  · show (args1 _ _).map _ = none
    rw [args1_at, h]
    split <;> rfl
  · show (args2 _ _).map _ = none
    rw [args2_at, h]
    split <;> rfl
theorem argsP_one {m : Nat} {l l1 : Ts} {t : Fm} (h : hd l = [40]) (ht : rdSum m l.tail = some (t, l1)) : argsP m 1 l = endA [t] l1 := by
  show (args1 _ _).map _ = _
  rw [args1_at, if_pos h, ht]
  unfold close endA
  dsimp only
  split <;> rfl
theorem argsP_two {m : Nat} {l l1 : Ts} {t : Fm} (h : hd l = [40]) (ht : rdSum m l.tail = some (t, l1)) : argsP m 2 l = if hd l1 = [44] then (match rdSum m l1.tail with
    | none => none
    | some (u, l2) => endA [t, u] l2) else none := by
  show (args2 _ _).map _ = _
  rw [args2_at, if_pos h, ht]
  dsimp only
  split
  · cases rdSum m l1.tail with
    | none => rfl
    | some x =>
      obtain ⟨u, l2⟩ := x
      dsimp only
      unfold endA
      split <;> rfl
  · rfl
theorem ExP.lst {p C dx a : Addr} {fs : List (Str × V)} {xs : List V} (e : ExP p H H') (hp : H p = some (.ins C dx fs)) (h : H a = some (.lst xs)) : H' a = some (.lst xs) := e a _ (fun q => by rw [q, hp] at h; cases h) h
theorem RdSt.lst {a : Addr} {xs : List V} (hs : RdSt K C H r l) (e : ExP r H H') (h : H a = some (.lst xs)) : H' a = some (.lst xs) := let ⟨_, _, _, _, h1, _⟩ := hs.out; e.lst h1 h
theorem RdSt.ne {a : Addr} {xs : List V} (hs : RdSt K C H r l) (h : H a = some (.lst xs)) : a ≠ r := fun q => by
  obtain ⟨_, _, _, _, h1, _⟩ := hs.out
  rw [q, h1] at h; cases h
/-- the list changes, not the reader -/
theorem RdSt.put {a : Addr} {xs : List V} (hs : RdSt K C H r l) (h : H a = some (.lst xs)) (ys : List V) (hp : ∀ dx pl i, H r = some (.ins C dx (rdF pl i)) → pl ≠ a) : RdSt K C (upd H a (.lst ys)) r l := by
  obtain ⟨dx, pl, ts, i, h1, h2, h3⟩ := hs.out
  refine ⟨hs.cls, dx, pl, ts, i, by rw [upd_ne (hs.ne h).symm]; exact h1, ?_, h3⟩
  rcases h2 with h2 | h2
  · rcases h2 with h2 | ⟨o, h2⟩
    · exact .inl (.inl (by rw [upd_ne (hp dx pl i h1)]; exact h2))
    · exact .inl (.inr ⟨o, by rw [upd_ne (hp dx pl i h1)]; exact h2⟩)
  · exact .inr h2
end
end Sk
set_option Elab.async false
set_option linter.all false
set_option maxRecDepth 100000
set_option maxHeartbeats 1000000
namespace Sk
open PySem L2 Evl Rd
section
variable {K : PySem.W.Frag} {C r CB : Addr} {H H' : Hp} {l : Ts} {σ : L2.St} {te tf : TE} {m : Str} {sp : Sp} {E : XK} {Q : VK}
theorem RdSt.putR {a b : Addr} {ys : List V} (hs : RdSt K C H r l) (h : H a = some (.lst (.ref b :: ys))) (zs : List V) : RdSt K C (upd H a (.lst zs)) r l := by
  have hna := hs.ne h
  obtain ⟨dx, pl, ts, i, h1, h2, h3⟩ := hs.out
  refine ⟨hs.cls, dx, pl, ts, i, by rw [upd_ne hna.symm]; exact h1, ?_, h3⟩
  rcases h2 with h2 | h2
  · have np : pl ≠ a := fun q => by
      rw [q] at h2
      rcases h2 with h2 | ⟨o, h2⟩
      · rw [h] at h2
        cases ts with
        | nil => cases h2
        | cons t ts => cases h2
      · rw [h] at h2; cases h2
    rcases h2 with h2 | ⟨o, h2⟩
    · exact .inl (.inl (by rw [upd_ne np]; exact h2))
    · exact .inl (.inr ⟨o, by rw [upd_ne np]; exact h2⟩)
  · exact .inr h2
theorem pure_Reader_read_args {d : Nat} {vs : List V} (h : sp_read_args K C CB (d + 1) vs H Q E) : t_Reader_read_args K CB C E d { nx := fun _ H' => Q .non H', rt := Q } (start ["self", "level", "many", "args"] vs) H := by
  obtain ⟨r, l, m, n, rfl, hs, hm, hmd, hn, k, kw⟩ := h
  have mFm : ∀ t : Fm, MonoT (fun v H => FmV K H v t) := fun t => fmT
  -- behind the arguments
  have fin : ∀ (ts : List Fm) (ys : List V) (a : Addr) (l2 : Ts) (H2 : Hp), ExP r H H2 → RdSt K C H2 r l2 → H2 a = some (.lst ys) → ItemsR (fun (t : Fm) v H => FmV K H v t) ts ys H2 → argsP m n l = endA ts l2 →
      (tSeq (tDrop (tMeth C "demand" (sp_demand K C CB) [] E (tVar 0) (tCons (tC (.str ")")) tNil))) (tRet (tThen (tVar 3) (kTup K)))) { nx := fun _ H' => Q .non H', rt := Q } [some (.ref r), some (.int (30 - (m : Int))), some (.int (n : Int)), some (.ref a)] H2 := fun ts ys a l2 H2 e2 hs2 ha hi hA => by
    show tMeth C "demand" (sp_demand K C CB) [] E (tVar 0) (tCons (tC (.str ")")) tNil) _ H2 _
    refine x_demand (t := [41]) (ev_var rfl) ev_c hs2 (fun h41 H3 e3 hs3 => ?_) fun hne H3 e3 => kw (by rw [hA]; unfold endA; rw [if_neg hne]) H3 (e2.trans e3)
    have ha3 := hs2.lst e3 ha
    refine ⟨_, rfl, .inl ⟨a, ys, rfl, sq_of ha3, fun q hq => ?_⟩⟩
    refine k ts l2.tail (by rw [hA]; unfold endA; rw [if_pos h41]) (.ref q) _ (e2.trans (e3.trans (.of (Ex.new hq)))) (hs3.ex (Ex.new hq)) ?_
    exact .tup (st_of upd_same) (dpa_of ((hi.tex mFm (hs2.tex e3)).ex (fun t => (mFm t).mono) (Ex.new hq)))
  show tMeth C "demand" (sp_demand K C CB) [] E (tVar 0) (tCons (tC (.str "(")) tNil) _ H _
  refine x_demand (t := [40]) (ev_var rfl) ev_c hs (fun h40 H1 e1 hs1 => ?_) fun hne H1 e1 => kw (argsP_no hn hne) H1 e1
  show tMeth C "read_sum" (spRd K C CB rdSum (d + 1)) [] E (tVar 0) (tCons (tVar 1) tNil) _ H1 _
  refine x_rd (ev_var rfl) (ev_var rfl) hs1 (rdn (by decide +kernel) (by decide +kernel)) hm hmd (fun t l1 ht v H2 e2 hs2 hv => ?_) fun hno H2 e2 => kw (argsP_none hn hno) H2 (e1.trans e2)
  refine ⟨show 1 ≤ sizeLine from szS (by omega), fun a ha => ?_⟩
  have e3 : Ex H2 (upd H2 a (.lst [v])) := Ex.new ha
  have eH : ExP r H (upd H2 a (.lst [v])) := e1.trans (e2.trans (.of e3))
  have hs3 := hs2.ex e3
  have hi1 : ItemsR (fun (t : Fm) v H => FmV K H v t) [t] [v] (upd H2 a (.lst [v])) := ItemsR.cons (hv.ex e3) ItemsR.nil
  obtain ⟨b, _, hvb, _⟩ := fm_kw hv
  have ha3 : upd H2 a (.lst [v]) a = some (.lst [v]) := upd_same
  have han : H a = none := by
    cases q : H a with
    | none => rfl
    | some o =>
      have nr : a ≠ r := fun z => by
        obtain ⟨_, _, _, _, g1, _⟩ := hs2.out
        rw [z, g1] at ha; cases ha
      rw [(e1.trans e2) a o nr q] at ha; cases ha
  generalize upd H2 a (.lst [v]) = H3 at e3 eH hs3 hi1 ha3 ⊢
  rcases hn with rfl | rfl
  · refine q_while' (fun _ σ' H' => σ' = [some (.ref r), some (.int (30 - (m : Int))), some (.int ((1 : Nat) : Int)), some (.ref a)] ∧ Ex H3 H') 0 ⟨rfl, Ex.refl _⟩ fun _ σ' H' => ?_
    rintro ⟨rfl, e⟩
    refine ⟨decide (((([v] : List V).length : Nat) : Int) < ((1 : Nat) : Int)), et_test (ev_lt (ev_lenL (ev_var rfl) (sq_of (e _ _ ha3))) (ev_var rfl)), fun hb => absurd hb (by simp), fun _ H4 e4 => ?_⟩
    have e34 := e.trans e4
    exact fin [t] [v] a l1 H4 (eH.trans (.of e34)) (hs3.ex e34) (e34 _ _ ha3) (hi1.ex (fun t => (mFm t).mono) e34) (argsP_one h40 ht)
  · have hA := argsP_two h40 ht
    refine q_while' (fun j σ' H' => σ' = [some (.ref r), some (.int (30 - (m : Int))), some (.int ((2 : Nat) : Int)), some (.ref a)] ∧ ((j = 1 ∧ Ex H3 H') ∨ (j = 0 ∧ ∃ ts w l2, ExP r H H' ∧ RdSt K C H' r l2 ∧ H' a = some (.lst [v, w]) ∧ ItemsR (fun (t : Fm) v H => FmV K H v t) ts [v, w] H' ∧ argsP m 2 l = endA ts l2))) 1 ⟨rfl, .inl ⟨rfl, Ex.refl _⟩⟩ fun j σ' H' => ?_
    rintro ⟨rfl, ⟨rfl, e⟩ | ⟨rfl, ts, w, l2, e, hs4, ha4, hi4, hA4⟩⟩
    · refine ⟨decide (((([v] : List V).length : Nat) : Int) < ((2 : Nat) : Int)), et_test (ev_lt (ev_lenL (ev_var rfl) (sq_of (e _ _ ha3))) (ev_var rfl)), fun _ H4 e4 => ?_, fun hb => absurd hb (by simp)⟩
      have e34 := e.trans e4
      have hs4 := hs3.ex e34
      have ha4 := e34 _ _ ha3
      have hi4 := hi1.ex (fun t => (mFm t).mono) e34
      show tMeth C "demand" (sp_demand K C CB) [] E (tVar 0) (tCons (tC (.str ",")) tNil) _ H4 _
      refine x_demand (t := [44]) (ev_var rfl) ev_c hs4 (fun h44 H5 e5 hs5 => ?_) fun hne H5 e5 => kw (by rw [hA, if_neg hne]) H5 (eH.trans ((ExP.of e34).trans e5))
      rw [if_pos h44] at hA
      have ha5 := hs4.lst e5 ha4
      refine ⟨_, rfl, .inl ⟨rfl, _, sq_of ha5⟩, ?_⟩
      show tMeth C "read_sum" (spRd K C CB rdSum (d + 1)) [] E (tVar 0) (tCons (tVar 1) tNil) _ H5 _
      refine x_rd (ev_var rfl) (ev_var rfl) hs5 (rdn (by decide +kernel) (by decide +kernel)) hm hmd (fun u l2 hu w H6 e6 hs6 hw => ?_) fun hno H6 e6 => kw (by rw [hA, hno]) H6 (eH.trans ((ExP.of e34).trans (e5.trans e6)))
      rw [hu] at hA
      have ha6 := hs5.lst e6 ha5
      have tx : TEx H6 (upd H6 a (.lst ([v] ++ [w]))) := TEx.put ha6
      refine ⟨a, [v], w, rfl, rfl, ha6, by show 1 < sizeLine; exact Nat.lt_of_lt_of_le (by omega) (szS (n := 2) (by omega)), ⟨0, by omega, rfl, .inr ⟨rfl, [t, u], w, l2, ?_, ?_, upd_same, ?_, hA⟩⟩⟩
      · intro x o nx hx
        have nxa : x ≠ a := fun z => by rw [z, han] at hx; cases hx
        rw [upd_ne nxa]
        exact (eH.trans ((ExP.of e34).trans (e5.trans e6))) x o nx hx
      · rw [hvb] at ha6 ⊢
        exact hs6.putR ha6 _
      · exact ItemsR.cons ((((hi4.2 0 v t rfl rfl).tex (hs4.tex e5)).tex (hs5.tex e6)).tex tx) (ItemsR.cons (hw.tex tx) ItemsR.nil)
    · refine ⟨decide (((([v, w] : List V).length : Nat) : Int) < ((2 : Nat) : Int)), et_test (ev_lt (ev_lenL (ev_var rfl) (sq_of ha4)) (ev_var rfl)), fun hb => absurd hb (by simp), fun _ H4 e4 => ?_⟩
      exact fin ts [v, w] a l2 H4 (e.trans (.of e4)) (hs4.ex e4) (e4 _ _ ha4) (hi4.ex (fun t => (mFm t).mono) e4) hA4
end
end Sk
set_option Elab.async false
set_option linter.all false
set_option maxRecDepth 100000
set_option maxHeartbeats 1000000
namespace Sk
open PySem L2 Evl
mutual
theorem Dp.ex {K : PySem.W.Frag} {H H' : Hp} (e : Ex H H') : ∀ (d : PyData) (v : V), Dp K H v d → Dp K H' v d
  | .none, _, h => by cases h; exact .non
  | .bool b, _, h => by cases h; exact .bl b
  | .int i, _, h => by cases h; exact .int i
  | .str x, _, h => by cases h; exact .str x
  | .list ds, _, h => by
    cases h with
    | lst hs ha => exact .lst (ex_l e hs) (DpAll.ex e ds _ ha)
  | .tuple ds, _, h => by
    cases h with
    | tup hs ha => exact .tup (ex_t e hs) (DpAll.ex e ds _ ha)
  | .dict _, _, h => by cases h
theorem DpAll.ex {K : PySem.W.Frag} {H H' : Hp} (e : Ex H H') : ∀ (ds : List PyData) (vs : List V), DpAll K H vs ds → DpAll K H' vs ds
  | [], _, h => by cases h; exact .nil
  | d :: ds, _, h => by
    cases h with
    | cons h1 h2 => exact .cons (Dp.ex e d _ h1) (DpAll.ex e ds _ h2)
end
section
variable {K : PySem.W.Frag} {σ : L2.St} {H : Hp} {te tf tg ta : TE} {d d1 d2 d3 : PyData}
def DpR (K : PySem.W.Frag) (d : PyData) : VP := fun v H => Dp K H v d
theorem dpR (d : PyData) : Mono (DpR K d) := fun v H H' e h => Dp.ex e d v h
/-- compared data that is the same -/
theorem ev_neSD (h : ER te σ H (DpR K d)) (h' : ER tf σ H (DpR K d)) (hl : d.canLay0 = true) (hd : d.depth ≤ 100) : Ev (tOp (rNeN K) te tf) σ H (.bl false) := fun H1 e Q q =>
  h H1 e _ fun v H2 e2 r1 => h' H2 (e.trans e2) _ fun w H3 e3 r2 => ⟨d, d, dpR d _ _ _ e3 r1, r2, hl, hl, hd, by rw [SeqAt.eqv_refl d hl]; exact q H3 (e2.trans e3)⟩
theorem ev_eqSD (h : ER te σ H (DpR K d)) (h' : ER tf σ H (DpR K d)) (hl : d.canLay0 = true) (hd : d.depth ≤ 100) : Ev (tOp (rEqN K) te tf) σ H (.bl true) := fun H1 e Q q =>
  h H1 e _ fun v H2 e2 r1 => h' H2 (e.trans e2) _ fun w H3 e3 r2 => ⟨d, d, dpR d _ _ _ e3 r1, r2, hl, hl, hd, by rw [SeqAt.eqv_refl d hl]; exact q H3 (e2.trans e3)⟩
/-- xs[:n] of a new list -/
theorem el_upN {xs : List V} {n : Nat} (h : EvL te σ H xs) (hi : ∀ H1, Ex H H1 → Ev tf σ H1 (.int (n : Int))) : EvL (tSl (rSlL K) te tNoPart (tPart tf)) σ H (xs.take n) := fun H1 e Q q => by
  have hcut : cutV xs none (some (n : Int)) = xs.take n := by
    unfold cutV HT.sIx
    simp only [List.drop_zero, Nat.sub_zero]
    rw [if_neg (by omega), Int.toNat_natCast]
    rcases Nat.le_total n xs.length with h | h
    · rw [Nat.min_eq_left h]
    · rw [Nat.min_eq_right h, List.take_length, List.take_of_length_le h]
  refine h H1 e _ fun p H2 hp e2 h2 => ?_
  refine eo_none H2 (e.trans e2) _ fun H3 e3 => ?_
  refine eo_some (hi H2 (e.trans e2)) H3 e3 _ fun H4 e4 => ?_
  refine ⟨p, xs, rfl, sq_of ((e3.trans e4) p _ h2), fun r hr => ?_⟩
  rw [hcut]
  exact q r _ (fresh_back (e2.trans (e3.trans e4)) hr) ((e2.trans (e3.trans e4)).trans (Ex.new hr)) upd_same
/-- _law_tree from a new place -/
theorem er_tree {dd : Nat} {i m : Nat} {x y : V} {l : List Int} {e : Nat} {z : Int} {ls : List (List Nat)} (h0 : σ[i]? = some (some x)) (hk : Ev te σ H (.int z)) (h2 : Ev tf σ H (.int (e : Int))) (h3 : σ[m]? = some (some y))
    (hr : IntsL l x H) (hl : l.length ≤ 4000) (hb : ∀ z ∈ l, 0 ≤ z ∧ z < 1009) (hn : ∃ q, y = .ref q ∧ H q = some (.lst (ls.map vS))) (hlen : ls.length ≤ 10) (hd : e < dd) :
    ER (tCall (sp_law_tree K dd) [] E0 (tCons (tVar i) (tCons (tLst (tCons te tNil)) (tCons tf (tCons (tVar m) tNil))))) σ H (fun v H' => ∃ t : Fm, FmV K H' v t ∧ t.dp ≤ e ∧ t.bn ls) := fun H1 e1 Q q => by
  obtain ⟨r, rfl, hr⟩ := hr
  obtain ⟨nm, rfl, hn⟩ := hn
  have ea : EA (tCons (tVar i) (tCons (tLst (tCons te tNil)) (tCons tf (tCons (tVar m) tNil)))) σ H1 (fun vs H2 => ∃ v0 r0, vs = v0 :: r0 ∧ v0 = .ref r ∧ ∃ v1 r1, r0 = v1 :: r1 ∧ (∃ p, v1 = .ref p ∧ H1 p = none ∧ H2 p = some (.lst [.int z])) ∧ ∃ v2 v3, r1 = [v2, v3] ∧ v2 = .int (e : Int) ∧ v3 = .ref nm) :=
    ea_cons' (R1 := fun v _ => v = .ref r) (er_is (ev_var h0)) monoC (ea_cons' (R1 := fun v H2 => ∃ p, v = .ref p ∧ H1 p = none ∧ H2 p = some (.lst [.int z])) ((er_lst (RA := fun vs _ => vs = [.int z]) (ea_ev (ea_cons (hk.mono e1) ea_nil)) (fun _ _ _ _ h => h) fun vs H2 h => by rw [h]; show 1 ≤ 100000; omega).imp fun v H2 _ ⟨p, vs, g1, g2, g3, g4⟩ => ⟨p, g1, g2, by rw [g4] at g3; exact g3⟩)
      (fun v Ha Hb e' ⟨p, g1, g2, g3⟩ => ⟨p, g1, g2, e' p _ g3⟩) (ea_two (R := fun v _ => v = .int (e : Int)) (R' := fun v _ => v = .ref nm) (er_is (h2.mono e1)) monoC (er_is (ev_var h3)) monoC))
  refine ea H1 (Ex.refl _) _ fun vs H2 e2 ⟨v0, r0, g0, g1, v1, r1, g2, ⟨p, g3, hp, h3'⟩, v2, v3, g4, g5, g6⟩ => ?_
  subst g0 g1 g2 g3 g4 g5 g6
  have np : ∀ a o, H1 a = some o → a ≠ p := fun a o h z => by rw [z, hp] at h; cases h
  exact ⟨_, _, p, z, l, e, ls, rfl, ⟨⟨r, rfl, np r _ (e1 r _ hr), (e1.trans e2) r _ hr⟩, hl, hb, h3'⟩, ⟨⟨nm, rfl, np nm _ (e1 nm _ hn), (e1.trans e2) nm _ hn⟩, hlen⟩, hd, fun v H6 n' t p6 h6 hv hdp hbn => q v H6 (fun a o ha => p6 a o (np a o ha) (e2 a o ha)) ⟨t, hv, hdp, hbn⟩⟩
end
end Sk
set_option Elab.async false
set_option linter.all false
set_option maxRecDepth 100000
set_option maxHeartbeats 1000000
namespace Sk
open PySem L2 Evl Rd
section
variable {K : PySem.W.Frag} {C r CB : Addr} {H H' : Hp} {l : Ts} {σ : L2.St} {te tf : TE} {m : Str} {sp : Sp} {E : XK} {Q : VK}
theorem part_at (s : PR) (l : Ts) : part s l = if hd l = [40] then close (s l.tail)
  else match fnA (hd l) with
    | some f => (args1 s l.tail).map fun x => (.fna f x.1, x.2)
    | none => match fnB (hd l) with
      | some f => (args2 s l.tail).map fun x => (.fnb f x.1.1 x.1.2, x.2)
      | none => if isName (hd l) = true then some (.name (hd l), l.tail) else if isInt (hd l) = true then some (.int (natOf (hd l)), l.tail) else none := rfl
theorem fnA_w {t : List Nat} {f : FnA} (h : fnA t = some f) : mkS t = f.w := by
  unfold fnA at h
  split at h
  · rename_i e; subst e; cases h; rfl
  split at h
  · rename_i e; subst e; cases h; rfl
  split at h
  · rename_i e; subst e; cases h; rfl
  split at h
  · rename_i e; subst e; cases h; rfl
  cases h
theorem fnB_w {t : List Nat} {f : FnB} (h : fnB t = some f) : mkS t = f.w := by
  unfold fnB at h
  split at h
  · rename_i e; subst e; cases h; rfl
  split at h
  · rename_i e; subst e; cases h; rfl
  split at h
  · rename_i e; subst e; cases h; rfl
  split at h
  · rename_i e; subst e; cases h; rfl
  cases h
theorem int_tok {t : List Nat} (h : isInt t = true) : PySem.intText? (mkS t) = some ((natOf t : Nat) : Int) ∧ (mkS t).length ≤ 640 := by
  have hi : isInt t = (!(decide (t.take 1 = [48]) && !decide (t = [48])) && (decide (1 ≤ t.length ∧ t.length ≤ 18) && t.all fun c => decide (c ∈ Tk.digits))) := rfl
  rw [hi, Bool.and_eq_true, Bool.and_eq_true, decide_eq_true_eq] at h
  obtain ⟨_, ⟨h1, h2⟩, h3⟩ := h
  refine ⟨?_, by rw [mkS_len]; omega⟩
  have := SX.int_S (a := t) (List.all_eq_true.mpr fun c hc => by
    have := of_decide_eq_true (List.all_eq_true.mp h3 c hc)
    unfold Tk.digits at this
    simp only [List.mem_cons, List.not_mem_nil, or_false] at this
    rcases this with rfl | rfl | rfl | rfl | rfl | rfl | rfl | rfl | rfl | rfl <;> rfl) (by intro q; subst q; cases h1) (by omega)
  exact this
theorem pure_Reader_read_part {aF : Addr} {d : Nat} {vs : List V} (h : sp_read_part K C CB (d + 1) vs H Q E) : t_Reader_read_part K CB C aF E d { nx := fun _ H' => Q .non H', rt := Q } (start ["self", "level", "token", "tree"] vs) H := by
  obtain ⟨r, l, m, rfl, hs, hm, hmd, k, kw⟩ := h
  have hP : rdPart m l = part (inS m) l := rfl
  rw [hP, part_at] at k kw
  have hlen : (hd l).length ≤ 100000 := by
    cases l with
    | nil => exact Nat.zero_le _
    | cons a l => have := (hs.full a List.mem_cons_self).2; show a.length ≤ _; omega
  show tMeth C "take" (sp_take K C) [] E0 (tVar 0) tNil _ H _
  refine x_take (ev_var rfl) hs fun H1 e1 hs1 => ?_
  refine q_when (b := decide (hd l = [40])) (et_test (ev_eqS (m := [40]) (ev_var rfl) ev_c)) (fun hb H2 e2 => ?_) fun hb H2 e2 => ?_
  · rw [if_pos (of_decide_eq_true hb)] at k kw
    have eH : ExP r H H2 := e1.trans (.of e2)
    show tMeth C "read_sum" (spRd K C CB rdSum d) [] E (tVar 0) (tCons (tCall (sp_deeper K CB) [] E (tCons (tVar 1) tNil)) tNil) _ H2 _
    refine x_methD (k := m) (ev_var rfl) (ev_var rfl) (hs1.ex e2) (rdn (by decide +kernel) (by decide +kernel)) hm (fun q H3 e3 => ?_) fun n q H3 e3 hs3 => ?_
    · subst q
      exact kw rfl H3 (eH.trans (.of e3))
    · subst q
      refine ⟨r, l.tail, n, rfl, hs3, by omega, by omega, fun t l' ht v H4 e4 hs4 hv => ?_, fun hn H4 e4 => kw (by show close (rdSum n l.tail) = none; rw [hn]; rfl) H4 (eH.trans ((ExP.of e3).trans e4))⟩
      show tMeth C "demand" (sp_demand K C CB) [] E (tVar 0) (tCons (tC (.str ")")) tNil) _ H4 _
      refine x_demand (t := [41]) (ev_var rfl) ev_c hs4 (fun h41 H5 e5 hs5 => ?_) fun hne H5 e5 => kw (by show close (rdSum n l.tail) = none; rw [ht]; unfold close; dsimp only; rw [if_neg hne]) H5 (eH.trans ((ExP.of e3).trans (e4.trans e5)))
      exact s_ret (ev_var rfl) fun H6 e6 => k t l'.tail (by show close (rdSum n l.tail) = _; rw [ht]; unfold close; dsimp only; rw [if_pos h41]) v H6 (eH.trans ((ExP.of e3).trans (e4.trans (e5.trans (.of e6))))) (hs5.ex e6) ((hv.tex (hs4.tex e5)).ex e6)
  rw [if_neg (of_decide_eq_false hb)] at k kw
  refine q_when (b := isFn (hd l)) (et_test (by rw [← lk_fn]; exact ev_inKD (ev_var rfl))) (fun hf H3 e3 => ?_) fun hf H3 e3 => ?_
  · have eH : ExP r H H3 := e1.trans (.of (e2.trans e3))
    -- a function of so many arguments
    have call : ∀ (cnt : Nat), fnN (hd l) = some cnt → (cnt = 1 ∨ cnt = 2) → (∀ n ts l', m = n + 1 → argsP n cnt l.tail = some (ts, l') → ∃ t : Fm, t.data = .tuple [.str "call", .str (mkS (hd l)), .tuple (ts.map Fm.data)] ∧ ∀ v H', ExP r H H' → RdSt K C H' r l' → FmV K H' v t → Q v H') →
        (∀ n, m = n + 1 → argsP n cnt l.tail = none → ∀ H', ExP r H H' → ∀ d, ErrAt K CB d H' → E (.ref CB) (some d) H') → (m = 0 → ∀ H', ExP r H H' → ∀ d, ErrAt K CB d H' → E (.ref CB) (some d) H') →
        (tRet (tTup (tCons (tC (.str "call")) (tCons (tVar 2) (tCons (tMeth C "read_args" (sp_read_args K C CB d) [] E (tVar 0) (tCons (tCall (sp_deeper K CB) [] E (tCons (tVar 1) tNil)) (tCons (tOp (rIxKD aF functionsL) (tC (.ref aF)) (tVar 2)) tNil))) tNil))))) { nx := fun _ H' => Q .non H', rt := Q } [some (.ref r), some (.int (30 - (m : Int))), some (vS (hd l)), none] H3 := fun cnt hc hcn kk kn k0 => by
      refine ⟨_, rfl, ?_⟩
      refine x_methD (k := m) (ev_var rfl) (ev_var rfl) (hs1.ex (e2.trans e3)) (rdn (by decide +kernel) (by decide +kernel)) hm (fun q H4 e4 => k0 q H4 (eH.trans (.of e4))) fun n q H4 e4 hs4 => ?_
      refine ⟨_, rfl, mkS (hd l), .int (cnt : Int), rfl, rfl, by rw [lk_fns, hc]; rfl, ?_⟩
      refine ⟨r, l.tail, n, cnt, rfl, hs4, by omega, by omega, hcn, fun ts l' ht v H5 e5 hs5 hv => ?_, fun hn H5 e5 => kn n q hn H5 (eH.trans ((ExP.of e4).trans e5))⟩
      refine ⟨show 3 ≤ sizeLine from szS (by omega), fun a ha => ?_⟩
      obtain ⟨t, htd, kq⟩ := kk n ts l' q ht
      have ea : Ex H5 (upd H5 a (.tup [.str "call", .str (mkS (hd l)), v])) := Ex.new ha
      refine kq (.ref a) _ (eH.trans ((ExP.of e4).trans (e5.trans (.of ea)))) (hs5.ex ea) ?_
      show Dp K _ (.ref a) t.data
      rw [htd]
      exact dp3 (st_of upd_same) (.str _) (.str _) (Dp.ex ea _ _ hv)
    cases hA : fnA (hd l) with
    | some f =>
      rw [hA] at k kw
      dsimp only at k kw
      refine call 1 (by unfold fnN; rw [hA]; rfl) (.inl rfl) (fun n ts l' q ht => ?_) (fun n q hn => ?_) fun q => ?_
      · subst q
        have hr : (args1 (rdSum n) l.tail).map (fun x => ([x.1], x.2)) = some (ts, l') := ht
        cases hx : args1 (rdSum n) l.tail with
        | none => rw [hx] at hr; cases hr
        | some x =>
          rw [hx] at hr
          cases hr
          exact ⟨.fna f x.1, by rw [fnA_w hA]; rfl, fun v H' e' hs' hv => k (.fna f x.1) x.2 (by show (args1 (rdSum n) l.tail).map _ = _; rw [hx]; rfl) v H' e' hs' hv⟩
      · subst q
        refine kw ?_
        have hr : (args1 (rdSum n) l.tail).map (fun x => ([x.1], x.2)) = none := hn
        show (args1 (rdSum n) l.tail).map _ = none
        cases hx : args1 (rdSum n) l.tail with
        | none => rfl
        | some x => rw [hx] at hr; cases hr
      · subst q
        refine kw ?_
        show (args1 (fun _ => none) l.tail).map _ = none
        rw [args1_at]
        split <;> rfl
    | none =>
      cases hB : fnB (hd l) with
      | none => unfold isFn at hf; rw [hA, hB] at hf; cases hf
      | some f =>
        rw [hA, hB] at k kw
        dsimp only at k kw
        refine call 2 (by unfold fnN; rw [hA, hB]; rfl) (.inr rfl) (fun n ts l' q ht => ?_) (fun n q hn => ?_) fun q => ?_
        · subst q
          have hr : (args2 (rdSum n) l.tail).map (fun x => ([x.1.1, x.1.2], x.2)) = some (ts, l') := ht
          cases hx : args2 (rdSum n) l.tail with
          | none => rw [hx] at hr; cases hr
          | some x =>
            rw [hx] at hr
            cases hr
            exact ⟨.fnb f x.1.1 x.1.2, by rw [fnB_w hB]; rfl, fun v H' e' hs' hv => k (.fnb f x.1.1 x.1.2) x.2 (by show (args2 (rdSum n) l.tail).map _ = _; rw [hx]; rfl) v H' e' hs' hv⟩
        · subst q
          refine kw ?_
          have hr : (args2 (rdSum n) l.tail).map (fun x => ([x.1.1, x.1.2], x.2)) = none := hn
          show (args2 (rdSum n) l.tail).map _ = none
          cases hx : args2 (rdSum n) l.tail with
          | none => rfl
          | some x => rw [hx] at hr; cases hr
        · subst q
          refine kw ?_
          show (args2 (fun _ => none) l.tail).map _ = none
          rw [args2_at]
          split <;> rfl
  have hA : fnA (hd l) = none := by
    cases q : fnA (hd l) with
    | none => rfl
    | some f => unfold isFn at hf; rw [q] at hf; cases hf
  have hB : fnB (hd l) = none := by
    cases q : fnB (hd l) with
    | none => rfl
    | some f => unfold isFn at hf; rw [hA, q] at hf; cases hf
  rw [hA, hB] at k kw
  dsimp only at k kw
  have e23 : Ex H1 H3 := e2.trans e3
  refine q_when (b := isName (hd l)) (et_B (ev_er (er_call1 (er_is (ev_var rfl)) monoC fun v H4 e4 g4 => ⟨hd l, g4, hlen, rfl⟩))) (fun hn H4 e4 => ?_) fun hn H4 e4 => ?_
  · rw [if_pos hn] at k
    refine s_retU (eu_tup (vs := [.str "name", vS (hd l)]) (ea_cons ev_c (ea_cons (ev_var rfl) ea_nil)) (by show 2 ≤ 100000; omega)) fun a H5 ha e5 h5 => ?_
    exact k (.name (hd l)) l.tail rfl (.ref a) H5 (e1.trans (.of (e23.trans (e4.trans e5)))) (hs1.ex (e23.trans (e4.trans e5))) (dp2 (st_of h5) (.str _) (.str _))
  rw [if_neg (by rw [hn]; decide)] at k kw
  refine q_when (b := isInt (hd l)) (et_B (ev_er (er_call1 (er_is (ev_var rfl)) monoC fun v H5 e5 g5 => ⟨hd l, g5, hlen, rfl⟩))) (fun hi H5 e5 => ?_) fun hi H5 e5 => ?_
  · rw [if_pos hi] at k
    obtain ⟨ht, hz⟩ := int_tok hi
    have hx : Ev (tCB xIntS (tCons (tVar 2) tNil)) [some (.ref r), some (.int (30 - (m : Int))), some (vS (hd l)), none] H5 (.int ((natOf (hd l) : Nat) : Int)) := ev_cb (ea_cons (ev_var rfl) ea_nil) fun H6 e6 Q q => ⟨_, _, rfl, ht, hz, q H6 (Ex.refl _)⟩
    refine s_retU (eu_tup (vs := [.str "int", .int ((natOf (hd l) : Nat) : Int)]) (ea_cons ev_c (ea_cons hx ea_nil)) (by show 2 ≤ 100000; omega)) fun a H6 ha e6 h6 => ?_
    exact k (.int (natOf (hd l))) l.tail rfl (.ref a) H6 (e1.trans (.of (e23.trans (e4.trans (e5.trans e6))))) (hs1.ex (e23.trans (e4.trans (e5.trans e6)))) (dp2 (st_of h6) (.str _) (.int _))
  · rw [if_neg (by rw [hi]; decide)] at kw
    exact fun H6 e6 d hd => kw rfl H6 (e1.trans (.of (e23.trans (e4.trans (e5.trans e6))))) d hd
end
end Sk
set_option Elab.async false
set_option linter.all false
set_option maxRecDepth 100000
set_option maxHeartbeats 1000000
namespace Sk
open PySem L2 Evl Rd
section
variable {K : PySem.W.Frag} {C r CB : Addr} {H H' : Hp} {l : Ts} {σ : L2.St} {te tf : TE} {m : Str} {sp : Sp} {E : XK} {Q : VK}
def parseAll (ts : Ts) : Option Fm := match rdSum 30 ts with
  | some (t, []) => some t
  | _ => none
/-- a text that is read as a formula -/
def RF (txt : List Nat) (o : Option Fm) : Prop := ∃ ot, Toks1 txt ot ∧ o = ot.bind parseAll
def pReadF (K : PySem.W.Frag) (CB : Addr) : V → Hp → VP → WP → Prop := fun x H R W => ∃ txt o, x = vS txt ∧ txt.length ≤ 100000 ∧ RF txt o ∧ (∀ t, o = some t → ∀ v H', FmV K H' v t → R v H') ∧ (o = none → W CB)
def sp_read_formula (K : PySem.W.Frag) (CB : Addr) : Sp := spX1 K (pReadF K CB)
def t_read_formula (K : PySem.W.Frag) (a_BadForm : Addr) (a_Reader : Addr) (E : XK) : TS := (tSeq (tAsg (tMake a_Reader (sp_rd_init K a_Reader a_BadForm) [] E (tCons (tVar 0) tNil)) (gName 1))
    (tSeq (tAsg (tMeth a_Reader "read_sum" (sp_read_sum K a_Reader a_BadForm 31) [] E (tVar 1) (tCons (tC (.int 0)) tNil)) (gName 2))
    (tSeq (tDrop (tMeth a_Reader "check_end" (sp_check_end K a_Reader a_BadForm) [] E (tVar 1) tNil))
    (tRet (tVar 2)))))
theorem ex_thru {r : Addr} {H1 H2 : Hp} (e : Ex H H1) (n : H r = none) (p : ExP r H1 H2) : Ex H H2 := fun a o h => p a o (fun q => by rw [q, n] at h; cases h) (e a o h)
theorem pure_read_formula (rc : RdC K C) {vs : List V} (h : sp_read_formula K CB vs H Q E) : t_read_formula K CB C E { nx := fun _ H' => Q .non H', rt := Q } (start ["text", "reader", "tree"] vs) H := by
  obtain ⟨x, R, W, rfl, ⟨txt, o, rfl, hz, ⟨ot, hot, ho⟩, kR, kW⟩, k, kw⟩ := h
  refine ⟨_, rfl, fun r dx hr hdx hne => ?_⟩
  have e0 : Ex H (upd (upd H dx (.own r)) r (.ins C dx [])) := fun b u hb => by
    have n1 : b ≠ r := fun q => by rw [q, hr] at hb; cases hb
    have n2 : b ≠ dx := fun q => by rw [q, hdx] at hb; cases hb
    rw [upd_ne n1, upd_ne n2]; exact hb
  refine ⟨r, dx, txt, ot, rfl, rc, upd_same, hz, hot, fun ts hts H1 e1 hs1 => ⟨rfl, ?_⟩, fun hn H1 e1 d hd => kw CB H1 (ex_thru e0 hr e1) (kW (by rw [ho, hn]; rfl)) d hd⟩
  have ho2 : o = parseAll ts := by rw [ho, hts]; rfl
  show tMeth C "read_sum" (spRd K C CB rdSum 31) [] E (tVar 1) (tCons (tC (.int 0)) tNil) _ H1 _
  refine x_rd (k := 30) (ev_var rfl) (ev_is ev_c (by decide)) hs1 (rdn (by decide +kernel) (by decide +kernel)) (by omega) (by omega) (fun t l' ht v H2 e2 hs2 hv => ?_) fun hn H2 e2 d hd => kw CB H2 (ex_thru e0 hr (e1.trans e2)) (kW (by rw [ho2]; unfold parseAll; rw [hn])) d hd
  show tMeth C "check_end" (sp_check_end K C CB) [] E (tVar 1) tNil _ H2 _
  refine x_check_end (ev_var rfl) hs2 (fun hn H3 e3 => ?_) fun hn H3 e3 d hd => kw CB H3 (ex_thru e0 hr (e1.trans (e2.trans (.of e3)))) (kW ?_) d hd
  · subst hn
    exact s_ret (ev_var rfl) fun H4 e4 => k _ _ (ex_thru e0 hr (e1.trans (e2.trans (.of (e3.trans e4))))) (kR t (by rw [ho2]; unfold parseAll; rw [ht]) _ _ (hv.ex (e3.trans e4)))
  · rw [ho2]
    unfold parseAll
    rw [ht]
    cases l' with
    | nil => exact absurd rfl hn
    | cons a l' => rfl
/-- a call of read_formula -/
theorem x_readF {txt : List Nat} {o : Option Fm} (h : Ev te σ H (vS txt)) (hz : txt.length ≤ 100000) (ho : RF txt o) (k : ∀ t, o = some t → ∀ v H1, Ex H H1 → FmV K H1 v t → Q v H1) (kw : o = none → ∀ H1, Ex H H1 → ∀ d, ErrAt K CB d H1 → E (.ref CB) (some d) H1) :
    tCall (sp_read_formula K CB) [] E (tCons te tNil) σ H Q :=
  x_call1 (er_is h) monoC _ fun v H1 e1 g1 => ⟨fun w H2 => ∃ t, o = some t ∧ FmV K H2 w t, fun c => c = CB ∧ o = none, ⟨txt, o, g1, hz, ho, fun t q w H2 g => ⟨t, q, g⟩, fun q => ⟨rfl, q⟩⟩,
    fun w H2 e2 ⟨t, q, g⟩ => k t q w H2 (e1.trans e2) g, fun c H2 e2 q d hd => by obtain ⟨rfl, q⟩ := q; exact kw q H2 (e1.trans e2) d hd⟩
/-- a text that is a formula: its tree -/
theorem er_readF {txt : List Nat} {t : Fm} (h : Ev te σ H (vS txt)) (hz : txt.length ≤ 100000) (ho : RF txt (some t)) : ER (tCall (sp_read_formula K CB) [] E (tCons te tNil)) σ H (fun v H => FmV K H v t) := fun H1 e Q q =>
  x_readF (h.mono e) hz ho (fun u hu v H2 e2 g => by cases hu; exact q v H2 e2 g) fun q => by cases q
end
end Sk
set_option Elab.async false
set_option linter.all false
set_option maxRecDepth 100000
set_option maxHeartbeats 1000000
namespace Sk
namespace Rd
open Sk
theorem natOf_lt : ∀ l : List Nat, (∀ c ∈ l, c ≤ 57) → natOf l < 10 ^ l.length := fun l hl => by
  have hb : ∀ l : List Nat, (∀ c ∈ l, c ≤ 57) → ∀ a, l.foldl (fun acc c => acc * 10 + (c - 48)) a < (a + 1) * 10 ^ l.length := by
    intro l
    induction l with
    | nil => intro _ a; simp
    | cons c l ih =>
      intro hc a
      have h1 := hc c List.mem_cons_self
      have := ih (fun d hd => hc d (List.mem_cons_of_mem _ hd)) (a * 10 + (c - 48))
      rw [List.foldl_cons, List.length_cons, Nat.pow_succ]
      refine Nat.lt_of_lt_of_le this ?_
      have h2 : a * 10 + (c - 48) + 1 ≤ (a + 1) * 10 := by omega
      calc (a * 10 + (c - 48) + 1) * 10 ^ l.length ≤ ((a + 1) * 10) * 10 ^ l.length := Nat.mul_le_mul_right _ h2
        _ = (a + 1) * (10 ^ l.length * 10) := by rw [Nat.mul_assoc, Nat.mul_comm 10]
  have := hb l hl 0
  rw [Nat.zero_add, Nat.one_mul] at this
  exact this
theorem isInt_out {s : List Nat} (h : isInt s = true) : 1 ≤ s.length ∧ s.length ≤ 18 ∧ ∀ c ∈ s, c ∈ Tk.digits := by
  have hi : isInt s = (!(decide (s.take 1 = [48]) && !decide (s = [48])) && (decide (1 ≤ s.length ∧ s.length ≤ 18) && s.all fun c => decide (c ∈ Tk.digits))) := rfl
  rw [hi, Bool.and_eq_true, Bool.and_eq_true, decide_eq_true_eq] at h
  exact ⟨h.2.1.1, h.2.1.2, fun c hc => of_decide_eq_true (List.all_eq_true.mp h.2.2 c hc)⟩
theorem dig_le {c : Nat} (h : c ∈ Tk.digits) : c ≤ 57 := by
  have : ∀ c ∈ Tk.digits, c ≤ 57 := by decide
  exact this c h
theorem int_back {s : List Nat} (h : isInt s = true) : fine dgT (.int (natOf s)) ∧ (dgT (natOf s)).length ≤ s.length := by
  obtain ⟨h1, h2, h3⟩ := isInt_out h
  have hl := natOf_lt s fun c hc => dig_le (h3 c hc)
  exact ⟨dgT_int (Nat.lt_of_lt_of_le hl (Nat.pow_le_pow_right (by decide) h2)), TL.numL_len h1 hl⟩
theorem rank_ge (t : Fm) : 1 ≤ rank t := rank_pos t
theorem name_len {s : List Nat} (h : isName s = true) : 1 ≤ s.length := by
  have hn : isName s = (!(isFn s || decide (s ∈ kws)) && (decide (1 ≤ s.length ∧ s.length ≤ 4) && s.all fun c => decide (c ∈ small))) := rfl
  rw [hn, Bool.and_eq_true, Bool.and_eq_true, decide_eq_true_eq] at h
  exact h.2.1.1
theorem prod_got {m : Nat} (hg : ∀ l t r, rdSign m l = some (t, r) → Got m 3 2 l t r) : ∀ l t r, rdProd m l = some (t, r) → Got m 2 4 l t r := fun l t r h => chain_got prodK_ok hg h
theorem sum_got {m : Nat} (hg : ∀ l t r, rdSign m l = some (t, r) → Got m 3 2 l t r) : ∀ l t r, rdSum m l = some (t, r) → Got m 1 6 l t r := fun l t r h => by
  rw [rdSum_eq] at h
  exact chain_got sumK_ok (prod_got hg) h
theorem part_got {m : Nat} (hs : ∀ m', m = m' + 1 → ∀ l t r, rdSum m' l = some (t, r) → Got m' 1 6 l t r) {l : Ts} {t : Fm} {r : Ts} (h : rdPart m l = some (t, r)) : Got m 3 2 l t r := by
  have h : part (inS m) l = some (t, r) := h
  unfold part at h
  split at h
  · rename_i h40
    cases m with
    | zero => cases h
    | succ m =>
      have h : close (rdSum m l.tail) = some (t, r) := h
      obtain ⟨r1, h1, h2, h3, h4⟩ := close_lt h
      have g := hs m rfl _ _ _ h1
      have w1 := wtT_hd (l := l) (by rw [h40]; decide)
      have w2 := wtT_hd (l := r1) (by rw [h3]; decide)
      rw [h40] at w1
      rw [h3] at w2
      have gl := g.len
      have gv := g.lv
      rw [no_par (rank_ge t)] at gl gv
      have gv : lv eP t ≤ m := gv
      have gl : (ptx t).length + wtT r1 ≤ wtT l.tail := gl
      have w1 : wtT l = 1 + 2 + wtT l.tail := w1
      have w2 : wtT r1 = 1 + 2 + wtT r1.tail := w2
      have hp := (par_len (decide (rank t < 3)) (ptx t)).2
      subst h4
      refine ⟨g.fine, ?_, by omega, by have := g.cd; omega⟩
      unfold pl
      split <;> omega
  · split at h
    · rename_i f hf
      have hsg := fnA_len hf
      have w0 := wtT_hd (l := l) (by rw [hsg]; cases f <;> decide)
      cases hx : args1 (inS m) l.tail with
      | none => rw [hx] at h; cases h
      | some x =>
        rw [hx] at h; cases h
        obtain ⟨a, r1⟩ := x
        unfold args1 at hx
        split at hx
        · rename_i h40
          cases m with
          | zero => cases hx
          | succ m =>
            have hx : close (rdSum m l.tail.tail) = some (a, r1) := hx
            obtain ⟨r2, h1, h2, h3, h4⟩ := close_lt hx
            have g := hs m rfl _ _ _ h1
            have w1 := wtT_hd (l := l.tail) (by rw [h40]; decide)
            have w2 := wtT_hd (l := r2) (by rw [h3]; decide)
            rw [h40] at w1
            rw [h3] at w2
            have gl := g.len
            have gv := g.lv
            rw [no_par (rank_ge a)] at gl gv
            have gv : lv eP a ≤ m := gv
            have gl : (ptx a).length + wtT r2 ≤ wtT l.tail.tail := gl
            have w1 : wtT l.tail = 1 + 2 + wtT l.tail.tail := w1
            have w2 : wtT r2 = 1 + 2 + wtT r2.tail := w2
            subst h4
            refine ⟨g.fine, ?_, ?_, ?_⟩
            · rw [no_par (show 3 ≤ rank (.fna f a) by show 3 ≤ 4; omega)]
              show 1 + lv eP a ≤ m + 1
              omega
            · rw [no_par (show 3 ≤ rank (.fna f a) by show 3 ≤ 4; omega)]
              show (FnA.sg f ++ [40] ++ ptx a ++ [41]).length + _ ≤ _
              rw [← hsg]
              simp only [List.length_append, List.length_cons, List.length_nil]
              show _ + wtT r2.tail ≤ _
              omega
            · show a.cd + 2 ≤ _
              have := g.cd; omega
        · cases hx
    · split at h
      · rename_i f hf
        have hsg := fnB_len hf
        have w0 := wtT_hd (l := l) (by rw [hsg]; cases f <;> decide)
        cases hx : args2 (inS m) l.tail with
        | none => rw [hx] at h; cases h
        | some x =>
          rw [hx] at h; cases h
          obtain ⟨⟨a, b⟩, r1⟩ := x
          unfold args2 at hx
          split at hx
          · rename_i h40
            cases m with
            | zero => cases hx
            | succ m =>
              split at hx
              · cases hx
              · rename_i t1 r2 e1
                have e1 : rdSum m l.tail.tail = some (t1, r2) := e1
                split at hx
                · rename_i h44
                  split at hx
                  · cases hx
                  · rename_i t2 r3 e2
                    have e2 : rdSum m r2.tail = some (t2, r3) := e2
                    split at hx
                    · rename_i h41
                      cases hx
                      have g := hs m rfl _ _ _ e1
                      have g' := hs m rfl _ _ _ e2
                      have w1 := wtT_hd (l := l.tail) (by rw [h40]; decide)
                      have w2 := wtT_hd (l := r2) (by rw [h44]; decide)
                      have w3 := wtT_hd (l := r3) (by rw [h41]; decide)
                      rw [h40] at w1
                      rw [h44] at w2
                      rw [h41] at w3
                      have gl := g.len
                      have gv := g.lv
                      rw [no_par (rank_ge a)] at gl gv
                      have gl' := g'.len
                      have gv' := g'.lv
                      rw [no_par (rank_ge b)] at gl' gv'
                      have gv : lv eP a ≤ m := gv
                      have gv' : lv eP b ≤ m := gv'
                      have gl : (ptx a).length + wtT r2 ≤ wtT l.tail.tail := gl
                      have gl' : (ptx b).length + wtT r3 ≤ wtT r2.tail := gl'
                      have w1 : wtT l.tail = 1 + 2 + wtT l.tail.tail := w1
                      have w2 : wtT r2 = 1 + 2 + wtT r2.tail := w2
                      have w3 : wtT r3 = 1 + 2 + wtT r3.tail := w3
                      refine ⟨⟨g.fine, g'.fine⟩, ?_, ?_, ?_⟩
                      · rw [no_par (show 3 ≤ rank (.fnb f a b) by show 3 ≤ 4; omega)]
                        show 1 + max (lv eP a) (lv eP b) ≤ m + 1
                        omega
                      · rw [no_par (show 3 ≤ rank (.fnb f a b) by show 3 ≤ 4; omega)]
                        show (FnB.sg f ++ [40] ++ ptx a ++ [44] ++ sp 1 ++ ptx b ++ [41]).length + wtT r3.tail ≤ _
                        rw [← hsg]
                        simp only [List.length_append, List.length_cons, List.length_nil, List.length_replicate]
                        omega
                      · show max a.cd b.cd + 2 ≤ _
                        have := g.cd
                        have := g'.cd
                        omega
                    · cases hx
                · cases hx
          · cases hx
      · split at h
        · rename_i hn
          cases h
          have w0 := wtT_hd (l := l) (by intro q; have := name_len hn; rw [q] at this; exact absurd this (by decide))
          refine ⟨hn, ?_, ?_, by show 2 ≤ _; omega⟩
          · rw [no_par (show 3 ≤ rank (.name (hd l)) by show 3 ≤ 4; omega)]; exact Nat.zero_le _
          · rw [no_par (show 3 ≤ rank (.name (hd l)) by show 3 ≤ 4; omega)]
            show (hd l).length + _ ≤ _
            omega
        · split at h
          · rename_i hi
            cases h
            obtain ⟨b1, b2⟩ := int_back hi
            have b3 := (isInt_out hi).1
            have w0 := wtT_hd (l := l) (by intro q; rw [q] at b3; exact absurd b3 (by decide))
            refine ⟨b1, ?_, ?_, by show 2 ≤ _; omega⟩
            · rw [no_par (show 3 ≤ rank (.int (natOf (hd l))) by show 3 ≤ 4; omega)]; exact Nat.zero_le _
            · rw [no_par (show 3 ≤ rank (.int (natOf (hd l))) by show 3 ≤ 4; omega)]
              show (dgT (natOf (hd l))).length + _ ≤ _
              omega
          · cases h
theorem sign_got : ∀ (m : Nat) (l : Ts) (t : Fm) (r : Ts), rdSign m l = some (t, r) → Got m 3 2 l t r
  | m, l, t, r, h => by
    rw [rdSign_at] at h
    cases hk : signK (hd l) with
    | none =>
      rw [hk] at h
      exact part_got (fun m' q l t r h => sum_got (fun l t r h => sign_got m' l t r h) l t r h) h
    | some k =>
      rw [hk] at h
      cases m with
      | zero => cases h
      | succ m =>
        have h : (rdSign m l.tail).map (fun x => (Fm.un k x.1, x.2)) = some (t, r) := h
        cases hx : rdSign m l.tail with
        | none => rw [hx] at h; cases h
        | some x =>
          rw [hx] at h; cases h
          obtain ⟨u, r1⟩ := x
          have g := sign_got m _ _ _ hx
          have hsg := signK_ok _ _ hk
          have w0 := wtT_hd (l := l) (by rw [hsg]; cases k <;> decide)
          refine ⟨g.fine, ?_, ?_, ?_⟩
          · rw [no_par (show 3 ≤ rank (.un k u) by show 3 ≤ 3; omega)]
            show 1 + pl (decide (rank u < 3)) (lv eP u) ≤ m + 1
            have := g.lv; omega
          · rw [no_par (show 3 ≤ rank (.un k u) by show 3 ≤ 3; omega)]
            show (UnK.sg k ++ opT u 3).length + wtT r1 ≤ _
            have := g.len
            have this : (opT u 3).length + wtT r1 ≤ wtT l.tail := this
            rw [List.length_append, ← hsg]
            omega
          · show u.cd + 3 ≤ _
            have := g.cd; omega
termination_by m => m
decreasing_by all_goals omega
/-- what read_formula gives -/
theorem all_got {ts : Ts} {t : Fm} (h : parseAll ts = some t) : fine dgT t ∧ lv eP t ≤ 30 ∧ (ptx t).length ≤ wtT ts ∧ t.cd ≤ 186 := by
  unfold parseAll at h
  split at h
  · rename_i u hx
    cases h
    have g := sum_got (sign_got 30) _ _ _ hx
    have gl := g.len
    have gv := g.lv
    rw [no_par (rank_ge t)] at gl gv
    have gl : (ptx t).length + wtT [] ≤ wtT ts := gl
    exact ⟨g.fine, gv, by omega, g.cd⟩
  · cases h
/-- its plain text is read as the same tree -/
theorem again {ts : Ts} {t : Fm} (h : parseAll ts = some t) (hz : (ptx t).length ≤ 1000) : RF (ptx t) (some t) := by
  obtain ⟨h1, h2, _, _⟩ := all_got h
  have hk := tx_toks (e := eP) (g := 1) (i := 0) (j := 0) h1
  rw [show sp 0 ++ ftx dgT eP 1 t ++ sp 0 = ptx t from by simp] at hk
  refine ⟨some (pt dgT eP t), .inr ⟨hz, hk⟩, ?_⟩
  show _ = parseAll (pt dgT eP t)
  unfold parseAll
  rw [pt_read eP_ok h1 h2]
end Rd
end Sk
set_option Elab.async false
set_option linter.all false
set_option maxRecDepth 100000
set_option maxHeartbeats 1000000
namespace Sk
open PySem L2 Evl Rd
section
variable {K : PySem.W.Frag} {H H' : Hp} {σ : L2.St} {te tf : TE} {E : XK} {Q : VK}
theorem tPairs_C : ∀ (l : List (Key × V)) (H : Hp) (Q : List (V × V) → Hp → Prop), Q (l.map fun kv => (kV kv.1, kv.2)) H → tPairs (l.map fun kv => (tC (kV kv.1), tC kv.2)) σ H Q
  | [], H, Q, q => q
  | kv :: l, H, Q, q => tPairs_C l H (fun ps H3 => Q ((kV kv.1, kv.2) :: ps) H3) q
theorem er_dispC {trs : List (TE × TE)} (l : List (Key × V)) (htr : trs = l.map fun kv => (tC (kV kv.1), tC kv.2)) (hl : l.length ≤ 15) : ER (tDisp trs) σ H (fun v H2 => ∃ p, v = .ref p ∧ H2 p = some (.dK (mergeK [] l))) := fun H1 e1 Q q p hp => by
  subst htr
  refine tPairs_C l _ _ ⟨upd_same, l, rfl, hl, q _ _ ?_ ⟨p, rfl, upd_same⟩⟩
  exact fun b o hb => by
    have n : b ≠ p := fun z => by rw [z, hp] at hb; cases hb
    rw [upd_ne n, upd_ne n]; exact hb
theorem ev_lit {trs : List (TE × TE)} {s : Str} {v : V} (l : List (Key × V)) (htr : trs = l.map fun kv => (tC (kV kv.1), tC kv.2)) (hl : l.length ≤ 15) (h : Ev te σ H (.str s)) (hv : valV (mergeK [] l) (Sum.inr s) = some v) : Ev (tDGet (tDisp trs) te) σ H v := fun H1 e1 Q q =>
  er_dispC l htr hl H1 e1 _ fun w H2 e2 ⟨p, hw, hp⟩ => h H2 (e1.trans e2) _ fun H3 e3 => ⟨p, v, hw, .inl ⟨_, Sum.inr s, Rd.of (e3 _ _ hp), rfl, hv.symm⟩, q H3 (e2.trans e3)⟩
theorem ev_lit2 {trs : List (TE × TE)} {s : Str} {z v : V} (l : List (Key × V)) (htr : trs = l.map fun kv => (tC (kV kv.1), tC kv.2)) (hl : l.length ≤ 15) (h : Ev te σ H (.str s)) (h' : Ev tf σ H z) (hv : (valV (mergeK [] l) (Sum.inr s)).getD z = v) : Ev (tDGet2 (tDisp trs) te tf) σ H v := fun H1 e1 Q q =>
  er_dispC l htr hl H1 e1 _ fun w H2 e2 ⟨p, hw, hp⟩ => ⟨p, hw, .inl ⟨_, Rd.of hp⟩, h H2 (e1.trans e2) _ fun H3 e3 => h' H3 (e1.trans (e2.trans e3)) _ fun H4 e4 => ⟨_, .inl ⟨_, Sum.inr s, Rd.of (e4 _ _ (e3 _ _ hp)), rfl, rfl⟩, by rw [hv]; exact q H4 (e2.trans (e3.trans e4))⟩⟩
def lrL : List (Key × V) := [(Sum.inr "add", .int 1), (Sum.inr "sub", .int 1), (Sum.inr "mul", .int 2), (Sum.inr "up", .int 2), (Sum.inr "down", .int 2), (Sum.inr "neg", .int 3), (Sum.inr "pow", .int 3)]
def lmL : List (Key × V) := [(Sum.inr "add", .str " + "), (Sum.inr "sub", .str " - "), (Sum.inr "mul", .str " * "), (Sum.inr "up", .str " << "), (Sum.inr "down", .str " >> ")]
theorem lr_at (t : Fm) : (valV (mergeK [] lrL) (Sum.inr t.kw)).getD (.int 4) = .int ((rank t : Nat) : Int) := by
  cases t with
  | op k a b => cases k <;> rfl
  | un k a => cases k <;> rfl
  | _ => rfl
theorem lm_at (k : OpK) : valV (mergeK [] lmL) (Sum.inr k.w) = some (vS (OpK.mk k)) := by cases k <;> rfl
def pLawRank (K : PySem.W.Frag) : V → Hp → VP → Prop := fun x H R => ∃ t : Fm, FmV K H x t ∧ R = fun v _ => v = .int ((rank t : Nat) : Int)
def sp_law_rank (K : PySem.W.Frag) : Sp := spF1 (pLawRank K)
def t_law_rank (K : PySem.W.Frag) : TS := (tRet (tDGet2 (tDisp [((tC (.str "add")), (tC (.int 1))), ((tC (.str "sub")), (tC (.int 1))), ((tC (.str "mul")), (tC (.int 2))), ((tC (.str "up")), (tC (.int 2))), ((tC (.str "down")), (tC (.int 2))), ((tC (.str "neg")), (tC (.int 3))), ((tC (.str "pow")), (tC (.int 3)))]) (tOp (rIxT K) (tVar 0) (tC (.int 0))) (tC (.int 4))))
theorem pure_law_rank {vs : List V} (h : sp_law_rank K vs H Q E) : t_law_rank K { nx := fun _ H' => Q .non H', rt := Q } (start ["tree"] vs) H := by
  obtain ⟨x, R, rfl, ⟨t, hx, rfl⟩, k⟩ := h
  obtain ⟨a, xs, rfl, hs⟩ := fm_kw hx
  exact s_ret (ev_lit2 lrL rfl (by decide) (ev_atT (ev_var rfl) ev_c hs (atI_n (i := 0) rfl)) ev_c (lr_at t)) fun H1 e1 => k _ H1 e1 rfl
theorem ev_lawRank {t : Fm} (h : ER te σ H (fun v H => FmV K H v t)) : Ev (tCall (sp_law_rank K) [] E (tCons te tNil)) σ H (.int ((rank t : Nat) : Int)) := ev_er (er_call1 h fmT.mono fun v H1 e1 g1 => ⟨t, g1, rfl⟩)
/-- extra parentheses -/
def eX (x : Nat) : Least := ⟨fun n => n + 3 * x, fun n => n + 1 + 3 * x, fun _ => 3 + 2 * x⟩
theorem eX_ok (x : Nat) : (eX x).Ok := ⟨fun n => by show n ≤ n + 3 * x; omega, fun n => by show n + 1 ≤ n + 1 + 3 * x; omega, fun _ => by show 3 ≤ 3 + 2 * x; omega⟩
abbrev ltx (x : Nat) (t : Fm) : List Nat := ftx dgT (eX x) 1 t
/-- a tree whose text the law writes -/
structure LwT (x : Nat) (t : Fm) : Prop where
  fine : fine dgT t
  len : (ltx x t).length ≤ 90000
def pLawPlain (K : PySem.W.Frag) (d : Nat) : V → V → Hp → VP → Prop := fun y z H R => ∃ (t : Fm) (x : Nat), FmV K H y t ∧ z = .int (x : Int) ∧ x ≤ 1 ∧ t.dp < d ∧ LwT x t ∧ R = fun v _ => v = vS (ltx x t)
def sp_law_plain26 (K : PySem.W.Frag) (d : Nat) : Sp := spF2 (pLawPlain K d)
def lopT (x : Nat) (t : Fm) (n : Nat) : List Nat := parT (decide (rank t < n)) (ltx x t)
def pLawOp (K : PySem.W.Frag) (d : Nat) : V → V → V → Hp → VP → Prop := fun y n z H R => ∃ (t : Fm) (x m : Nat), FmV K H y t ∧ n = .int (m : Int) ∧ z = .int (x : Int) ∧ x ≤ 1 ∧ t.dp < d ∧ LwT x t ∧ R = fun v _ => v = vS (lopT x t m)
def sp_law_operand (K : PySem.W.Frag) (d : Nat) : Sp := spF3 (pLawOp K d)
theorem vac_law_plain26 {vs : List V} (h : sp_law_plain26 K 0 vs H Q E) : False := by obtain ⟨y, z, R, _, ⟨t, x, _, _, _, hd, _⟩, _⟩ := h; exact Nat.not_lt_zero _ hd
def t_law_operand (K : PySem.W.Frag) (d : Nat) : TS := (tSeq (tAsg (tCall (sp_law_plain26 K d) [] E0 (tCons (tVar 0) (tCons (tVar 2) tNil))) (gName 3))
    (tSeq (tIfS (tTest (tOp xLt (tCall (sp_law_rank K) [] E0 (tCons (tVar 0) tNil)) (tVar 1))) (tRet (tOp xAddS (tOp xAddS (tC (.str "(")) (tVar 3)) (tC (.str ")")))) tNext)
    (tRet (tVar 3))))
theorem ev_lawPlain {d x : Nat} {t : Fm} (h : ER te σ H (fun v H => FmV K H v t)) (h' : Ev tf σ H (.int (x : Int))) (hx : x ≤ 1) (hd : t.dp < d) (hp : LwT x t) : Ev (tCall (sp_law_plain26 K d) [] E (tCons te (tCons tf tNil))) σ H (vS (ltx x t)) :=
  ev_er (er_call2 h fmT.mono (er_is h') monoC fun v w H1 e1 g1 g2 => ⟨t, x, g1, g2, hx, hd, hp, rfl⟩)
theorem ev_lawOp {d x n : Nat} {t : Fm} {tg : TE} (h : ER te σ H (fun v H => FmV K H v t)) (hn : Ev tf σ H (.int (n : Int))) (h' : Ev tg σ H (.int (x : Int))) (hx : x ≤ 1) (hd : t.dp < d) (hp : LwT x t) : Ev (tCall (sp_law_operand K d) [] E (tCons te (tCons tf (tCons tg tNil)))) σ H (vS (lopT x t n)) :=
  ev_er (er_call3 h fmT.mono (er_is hn) monoC (er_is h') monoC fun v w z H1 e1 g1 g2 g3 => ⟨t, x, n, g1, g2, g3, hx, hd, hp, rfl⟩)
theorem pure_law_operand {d : Nat} {vs : List V} (h : sp_law_operand K d vs H Q E) : t_law_operand K d { nx := fun _ H' => Q .non H', rt := Q } (start ["tree", "least", "extra", "text"] vs) H := by
  obtain ⟨y, n, z, R, rfl, ⟨t, x, m, hy, rfl, rfl, hx, hd, hp, rfl⟩, k⟩ := h
  have hlen := hp.len
  refine q_asg (v := vS (ltx x t)) (ev_lawPlain (er_var rfl fun H2 e2 => hy.ex e2) (ev_var rfl) hx hd hp) fun H1 e1 => ?_
  have hb : decide (((rank t : Nat) : Int) < (m : Int)) = decide (rank t < m) := by
    rw [Bool.eq_iff_iff, decide_eq_true_eq, decide_eq_true_eq, Int.ofNat_lt]
  refine q_when (b := decide (rank t < m)) (by rw [← hb]; exact et_test (ev_lt (ev_lawRank (er_var rfl fun H2 e2 => (hy.ex e1).ex e2)) (ev_var rfl))) (fun q H2 e2 => ?_) fun q H2 e2 => ?_
  · refine s_ret (v := vS (lopT x t m)) ?_ fun H3 e3 => k _ H3 (e1.trans (e2.trans e3)) rfl
    unfold lopT parT
    rw [q]
    have := ev_addS (l := [40] ++ ltx x t) (m := [41]) (ev_addS (l := [40]) (m := ltx x t) (ta := tC (.str "(")) (tb := tVar 3) (σ := [some y, some (.int (m : Int)), some (.int (x : Int)), some (vS (ltx x t))]) (H := H2) ev_c (ev_var rfl) (by show 1 + _ ≤ _; omega)) (tb := tC (.str ")")) ev_c (by show ([40] ++ ltx x t).length + 1 ≤ _; rw [List.length_append]; show 1 + _ + 1 ≤ _; omega)
    exact this
  · refine s_ret (v := vS (lopT x t m)) ?_ fun H3 e3 => k _ H3 (e1.trans (e2.trans e3)) rfl
    unfold lopT parT
    rw [q]
    exact ev_var rfl
end
end Sk
set_option Elab.async false
set_option linter.all false
set_option maxRecDepth 100000
set_option maxHeartbeats 1000000
namespace Sk
open PySem L2 Evl Rd
section
variable {K : PySem.W.Frag} {H H' : Hp} {σ : L2.St} {te tf : TE} {E : XK} {Q : VK}
def t_law_plain26 (K : PySem.W.Frag) (d : Nat) : TS := (tSeq (tAsg (tOp (rIxT K) (tVar 0) (tC (.int 0))) (gName 2))
    (tSeq (tIfS (tTest (tOp rEq (tVar 2) (tC (.str "int")))) (tRet (tCB xStrIS (tCons (tOp (rIxT K) (tVar 0) (tC (.int 1))) tNil))) tNext)
    (tSeq (tIfS (tTest (tOp rEq (tVar 2) (tC (.str "name")))) (tRet (tOp (rIxT K) (tVar 0) (tC (.int 1)))) tNext)
    (tSeq (tIfS (tTest (tOp rEq (tVar 2) (tC (.str "call")))) (tRet (tOp xAddS (tOp xAddS (tOp xAddS (tOp (rIxT K) (tVar 0) (tC (.int 1))) (tC (.str "("))) (tM1 (rJoinS K) (tC (.str ", ")) (tLc (iTup K (tOp (rIxT K) (tVar 0) (tC (.int 2)))) (gName 5) tYes (tCall (sp_law_plain26 K d) [] E0 (tCons (tVar 5) (tCons (tVar 1) tNil))) [5]))) (tC (.str ")")))) tNext)
    (tSeq (tIfS (tOr (tTest (tOp rEq (tVar 2) (tC (.str "neg")))) (tTest (tOp rEq (tVar 2) (tC (.str "pow"))))) (tRet (tOp xAddS (tOp (rIxL K) (tLst (tCons (tC (.str "-")) (tCons (tC (.str "2^")) tNil))) (tCB xInt1 (tCons (tOp rEq (tVar 2) (tC (.str "pow"))) tNil))) (tCall (sp_law_operand K d) [] E0 (tCons (tOp (rIxT K) (tVar 0) (tC (.int 1))) (tCons (tOp xAdd (tC (.int 3)) (tOp xMul (tC (.int 2)) (tVar 1))) (tCons (tVar 1) tNil)))))) tNext)
    (tSeq (tAsg (tDGet (tDisp [((tC (.str "add")), (tC (.str " + "))), ((tC (.str "sub")), (tC (.str " - "))), ((tC (.str "mul")), (tC (.str " * "))), ((tC (.str "up")), (tC (.str " << "))), ((tC (.str "down")), (tC (.str " >> ")))]) (tVar 2)) (gName 3))
    (tSeq (tAsg (tCall (sp_law_rank K) [] E0 (tCons (tVar 0) tNil)) (gName 4))
    (tRet (tOp xAddS (tOp xAddS (tCall (sp_law_operand K d) [] E0 (tCons (tOp (rIxT K) (tVar 0) (tC (.int 1))) (tCons (tOp xAdd (tVar 4) (tOp xMul (tC (.int 3)) (tVar 1))) (tCons (tVar 1) tNil)))) (tVar 3)) (tCall (sp_law_operand K d) [] E0 (tCons (tOp (rIxT K) (tVar 0) (tC (.int 2))) (tCons (tOp xAdd (tOp xAdd (tVar 4) (tC (.int 1))) (tOp xMul (tC (.int 3)) (tVar 1))) (tCons (tVar 1) tNil)))))))))))))
theorem ltx_lens {x : Nat} {ts : List Fm} {ys : List V} (h : ItemsR (fun (t : Fm) v _ => v = vS (ltx x t)) ts ys H) : ys = (ts.map (ltx x)).map vS := by
  refine List.ext_getElem? fun i => ?_
  rw [List.map_map, List.getElem?_map]
  cases e : ts[i]? with
  | none =>
    have := List.getElem?_eq_none_iff.mp e
    rw [List.getElem?_eq_none (by rw [h.1]; exact this)]; rfl
  | some t =>
    obtain ⟨y, hy, hv⟩ := h.at e
    rw [hy, hv]; rfl
theorem ev_largs {d x : Nat} {ts : List Fm} {a b : Addr} {xs zs : List V} {σ : L2.St} (hx1 : x ≤ 1) (h1 : ∀ y : V, ((wipe σ [5]).set 5 (some y))[1]? = some (some (.int (x : Int)))) (hx5 : ∀ y : V, ((wipe σ [5]).set 5 (some y))[5]? = some (some y)) (hw : ∀ y : V, wipe ((wipe σ [5]).set 5 (some y)) [5] = wipe σ [5]) (h0 : σ[0]? = some (some (.ref a))) (hs : SqT K H a xs) (h2 : atI xs (2 : Int) = some (.ref b)) (hb : SqT K H b zs) (hi : ItemsR (fun (t : Fm) v H => FmV K H v t) ts zs H) (hc : ∀ t ∈ ts, t.dp < d ∧ LwT x t) (hn : ts.length ≤ 2)
    (hz : (ts.map fun t => (ltx x t).length).sum ≤ 90000) :
    Ev (tM1 (rJoinS K) (tC (.str ", ")) (tLc (iTup K (tOp (rIxT K) (tVar 0) (tC (.int 2)))) (gName 5) tYes (tCall (sp_law_plain26 K d) [] E0 (tCons (tVar 5) (tCons (tVar 1) tNil))) [5])) σ H (.str (Txt.join (mkS [44, 32]) ((ts.map (ltx x)).map mkS))) := by
  refine ev_joinC (ls := ts.map (ltx x)) ?_ (by rw [List.map_map, List.length_map]; show (ts.map fun t => (ltx x t).length).sum + _ ≤ _; omega)
  refine (er_lcIT (R1 := fun (t : Fm) v H => FmV K H v t) (R2 := fun (t : Fm) v _ => v = vS (ltx x t)) (l := ts) (er_ev (ev_atT (ev_var h0) ev_c hs h2) fun H2 e2 => ⟨b, zs, rfl, ex_t e2 hb, hi.ex (fun _ => fmT.mono) e2⟩) (fun _ => fmT.mono) (fun _ => monoTC) (by omega) fun j t y H2 hj hx e2 Qk kk => ?_).imp fun v H2 e2 ⟨p, ys, h1, h2, h3, h4⟩ => ⟨p, h1, by rw [← ltx_lens h4]; exact h3⟩
  have hm := hc t (List.mem_of_getElem? hj)
  exact ⟨hw y, (ev_lawPlain (t := t) (er_var (hx5 y) fun H3 e3 => FmV.ex hx e3) (ev_var (h1 y)) hx1 hm.1 hm.2) H2 (Ex.refl _) _ fun H3 e3 => kk _ H3 e3 rfl⟩
theorem ev_callS {u x : List Nat} {ta tb : TE} (h1 : Ev ta σ H (vS u)) (h2 : Ev tb σ H (vS x)) (hz : u.length + x.length ≤ 99000) : Ev (tOp xAddS (tOp xAddS (tOp xAddS ta (tC (.str "("))) tb) (tC (.str ")"))) σ H (vS (u ++ [40] ++ x ++ [41])) := by
  have a1 := ev_addS (m := [40]) (tb := tC (.str "(")) h1 ev_c (by show u.length + 1 ≤ _; omega)
  have a2 := ev_addS a1 h2 (by rw [List.length_append]; show u.length + 1 + _ ≤ _; omega)
  exact ev_addS (m := [41]) (tb := tC (.str ")")) a2 ev_c (by rw [List.length_append, List.length_append]; show u.length + 1 + x.length + 1 ≤ _; omega)
theorem lwt_un {x : Nat} {k : UnK} {a : Fm} (h : LwT x (.un k a)) : LwT x a ∧ (lopT x a (3 + 2 * x)).length ≤ 90000 := by
  have h1 : (UnK.sg k ++ lopT x a (3 + 2 * x)).length ≤ 90000 := h.len
  have h2 := (par_len (decide (rank a < 3 + 2 * x)) (ltx x a)).1
  rw [List.length_append] at h1
  have h3 : (ltx x a).length ≤ (lopT x a (3 + 2 * x)).length := h2
  exact ⟨⟨h.fine, by omega⟩, by omega⟩
theorem ltx_op (x : Nat) (k : OpK) (a b : Fm) : ltx x (.op k a b) = lopT x a (opR k + 3 * x) ++ OpK.mk k ++ lopT x b (opR k + 1 + 3 * x) := by
  show parT _ _ ++ sp 1 ++ OpK.sg k ++ sp 1 ++ _ = _
  rw [mk_eq, ← List.append_assoc, ← List.append_assoc]
  rfl
theorem pure_law_plain26 {d : Nat} {vs : List V} (h : sp_law_plain26 K (d + 1) vs H Q E) : t_law_plain26 K d { nx := fun _ H' => Q .non H', rt := Q } (start ["tree", "extra", "word", "sign", "rank", "part"] vs) H := by
  obtain ⟨y, z, R, rfl, ⟨t, x, hy, rfl, hx1, hd, hp, rfl⟩, k⟩ := h
  have hlen := hp.len
  have hmul : ∀ (c : Int), 0 ≤ c ∧ c ≤ 3 → CMul c (x : Int) := fun c hc => by
    rcases (show x = 0 ∨ x = 1 by omega) with rfl | rfl <;> (rcases (show c = 0 ∨ c = 1 ∨ c = 2 ∨ c = 3 by omega) with rfl | rfl | rfl | rfl <;> exact .inl (by decide))
  cases t with
  | int n =>
    obtain ⟨a, rfl, hs⟩ := fm_int hy
    refine q_asg (v := .str "int") (ev_atT (ev_var rfl) ev_c hs (atI_n (i := 0) rfl)) fun H1 e1 => w_yes rfl (by decide +kernel) fun H2 e2 => ?_
    have e14 := e1.trans e2
    refine s_ret (v := vS (dgT n)) (ev_cb (ea_cons (ev_atT (v := .int (n : Int)) (ev_var rfl) ev_c (ex_t e14 hs) (atI_n (i := 1) rfl)) ea_nil) fun H5 e5 Q q => .inr ⟨(n : Int), rfl, int_log hp.fine.1, by rw [num_S]; exact q H5 (Ex.refl _)⟩) fun H5 e5 => k _ H5 (e14.trans e5) rfl
  | name s =>
    obtain ⟨a, rfl, hs⟩ := fm_name hy
    refine q_asg (v := .str "name") (ev_atT (ev_var rfl) ev_c hs (atI_n (i := 0) rfl)) fun H1 e1 => w_no rfl (by decide +kernel) fun H2 e2 => w_yes rfl (by decide +kernel) fun H3 e3 => ?_
    have e14 := e1.trans (e2.trans e3)
    exact s_ret (v := vS s) (ev_atT (v := vS s) (ev_var rfl) ev_c (ex_t e14 hs) (atI_n (i := 1) rfl)) fun H5 e5 => k _ H5 (e14.trans e5) rfl
  | fna f a =>
    obtain ⟨p, b, w, rfl, hs, hb, hw⟩ := fm_fna hy
    have hT : ltx x (.fna f a) = FnA.sg f ++ [40] ++ ltx x a ++ [41] := rfl
    have hfl : (FnA.sg f).length ≤ 5 := by cases f <;> decide
    rw [hT] at hlen
    simp only [List.length_append, List.length_cons, List.length_nil] at hlen
    have hca : a.dp < d := by have : a.dp + 1 < d + 1 := hd; omega
    refine q_asg (v := .str "call") (ev_atT (ev_var rfl) ev_c hs (atI_n (i := 0) rfl)) fun H1 e1 => w_no rfl (by decide +kernel) fun H2 e2 => w_no rfl (by decide +kernel) fun H3 e3 => w_yes rfl (by decide +kernel) fun H4 e4 => ?_
    have e14 := e1.trans (e2.trans (e3.trans e4))
    have ha := ev_largs (K := K) (d := d) (x := x) (ts := [a]) (σ := [some (.ref p), some (.int (x : Int)), some (.str "call"), none, none, none]) hx1 (fun _ => rfl) (fun _ => rfl) (fun _ => rfl) rfl (ex_t e14 hs) (atI_n (i := 2) rfl) (ex_t e14 hb) (ItemsR.cons (hw.ex e14) ItemsR.nil) (fun t ht => by
      rw [List.mem_singleton.mp ht]; exact ⟨hca, hp.fine, by omega⟩) (by show 1 ≤ 2; omega) (by simp; omega)
    rw [show Txt.join (mkS [44, 32]) (([a].map (ltx x)).map mkS) = mkS (ltx x a) from join_one _] at ha
    exact s_ret (v := vS (ltx x (.fna f a))) (ev_callS (u := FnA.sg f) (x := ltx x a) (ev_is (ev_atT (v := .str f.w) (ev_var rfl) ev_c (ex_t e14 hs) (atI_n (i := 1) rfl)) (by rw [fnA_sg])) ha (by omega)) fun H6 e6 => k _ H6 (e14.trans e6) rfl
  | fnb f a a2 =>
    obtain ⟨p, b, w, w2, rfl, hs, hb, hw, hw2⟩ := fm_fnb hy
    have hT : ltx x (.fnb f a a2) = FnB.sg f ++ [40] ++ (ltx x a ++ [44, 32] ++ ltx x a2) ++ [41] := by
      show FnB.sg f ++ [40] ++ ltx x a ++ [44] ++ sp 1 ++ ltx x a2 ++ [41] = _
      simp
    have hfl : (FnB.sg f).length ≤ 5 := by cases f <;> decide
    rw [hT] at hlen
    simp only [List.length_append, List.length_cons, List.length_nil] at hlen
    have hca : max a.dp a2.dp + 1 < d + 1 := hd
    refine q_asg (v := .str "call") (ev_atT (ev_var rfl) ev_c hs (atI_n (i := 0) rfl)) fun H1 e1 => w_no rfl (by decide +kernel) fun H2 e2 => w_no rfl (by decide +kernel) fun H3 e3 => w_yes rfl (by decide +kernel) fun H4 e4 => ?_
    have e14 := e1.trans (e2.trans (e3.trans e4))
    have ha := ev_largs (K := K) (d := d) (x := x) (ts := [a, a2]) (σ := [some (.ref p), some (.int (x : Int)), some (.str "call"), none, none, none]) hx1 (fun _ => rfl) (fun _ => rfl) (fun _ => rfl) rfl (ex_t e14 hs) (atI_n (i := 2) rfl) (ex_t e14 hb) (ItemsR.cons (hw.ex e14) (ItemsR.cons (hw2.ex e14) ItemsR.nil)) (fun t ht => by
      rcases List.mem_cons.mp ht with rfl | ht
      · exact ⟨by omega, hp.fine.1, by omega⟩
      · rw [List.mem_singleton.mp ht]; exact ⟨by omega, hp.fine.2, by omega⟩) (by show 2 ≤ 2; omega) (by simp; omega)
    rw [show Txt.join (mkS [44, 32]) (([a, a2].map (ltx x)).map mkS) = mkS (ltx x a ++ [44, 32] ++ ltx x a2) from join_two _ _] at ha
    exact s_ret (v := vS (ltx x (.fnb f a a2))) (by rw [hT]; exact ev_callS (ev_is (ev_atT (v := .str f.w) (ev_var rfl) ev_c (ex_t e14 hs) (atI_n (i := 1) rfl)) (by rw [fnB_sg])) ha (by simp only [List.length_append, List.length_cons, List.length_nil]; omega)) fun H6 e6 => k _ H6 (e14.trans e6) rfl
  | un kk a =>
    obtain ⟨p, w, rfl, hs, hw⟩ := fm_un hy
    obtain ⟨hpa, hoz⟩ := lwt_un hp
    have hca : a.dp < d := by have : a.dp + 1 < d + 1 := hd; omega
    refine q_asg (v := .str kk.w) (ev_atT (ev_var rfl) ev_c hs (atI_n (i := 0) rfl)) fun H1 e1 => w_no rfl (by cases kk <;> decide +kernel) fun H2 e2 => w_no rfl (by cases kk <;> decide +kernel) fun H3 e3 => w_no rfl (by cases kk <;> decide +kernel) fun H4 e4 => ?_
    have e14 := e1.trans (e2.trans (e3.trans e4))
    have op : ∀ {H5 : Hp}, Ex H4 H5 → Ev (tCall (sp_law_operand K d) [] E0 (tCons (tOp (rIxT K) (tVar 0) (tC (.int 1))) (tCons (tOp xAdd (tC (.int 3)) (tOp xMul (tC (.int 2)) (tVar 1))) (tCons (tVar 1) tNil)))) [some (.ref p), some (.int (x : Int)), some (.str kk.w), none, none, none] H5 (vS (lopT x a (3 + 2 * x))) := fun e5 =>
      ev_lawOp (n := 3 + 2 * x) (er_ev (ev_atT (v := w) (ev_var rfl) ev_c (ex_t (e14.trans e5) hs) (atI_n (i := 1) rfl)) fun H6 e6 => hw.ex (e14.trans (e5.trans e6))) (ev_is (ev_add ev_c (ev_mul ev_c (ev_var rfl) (hmul 2 (by omega)))) (congrArg V.int (by omega))) (ev_var rfl) hx1 hca hpa
    have hsg : Ev (tOp (rIxL K) (tLst (tCons (tC (.str "-")) (tCons (tC (.str "2^")) tNil))) (tCB xInt1 (tCons (tOp rEq (tVar 2) (tC (.str "pow"))) tNil))) [some (.ref p), some (.int (x : Int)), some (.str kk.w), none, none, none] H4 (vS (UnK.sg kk)) := by
      cases kk with
      | neg => exact ev_pickL (xs := [.str "-", .str "2^"]) (k := 0) (ea_cons ev_c (ea_cons ev_c ea_nil)) (by show 2 ≤ 1000; omega) (ev_is (ev_intBl (ev_eq (ev_var rfl) ev_c rfl)) (by decide +kernel)) rfl
      | pow => exact ev_pickL (xs := [.str "-", .str "2^"]) (k := 1) (ea_cons ev_c (ea_cons ev_c ea_nil)) (by show 2 ≤ 1000; omega) (ev_is (ev_intBl (ev_eq (ev_var rfl) ev_c rfl)) (by decide +kernel)) rfl
    have hu : (UnK.sg kk).length ≤ 2 := by cases kk <;> decide
    refine q_when (b := true) ?_ (fun _ H5 e5 => ?_) fun q => by cases q
    · have := et_or (b := decide (V.str kk.w = V.str "pow")) (et_test (ev_eq (σ := [some (.ref p), some (.int (x : Int)), some (.str kk.w), none, none, none]) (H := H4) (ev_var (i := 2) rfl) (ev_c (v := .str "neg")) rfl)) fun _ => et_test (ev_eq (ev_var (i := 2) rfl) (ev_c (v := .str "pow")) rfl)
      rwa [show (decide (V.str kk.w = V.str "neg") || decide (V.str kk.w = V.str "pow")) = true from by cases kk <;> decide +kernel] at this
    · refine s_ret (v := vS (ltx x (.un kk a))) (ev_addS (l := UnK.sg kk) (m := lopT x a (3 + 2 * x)) (hsg.mono e5) (op e5) (by omega)) fun H6 e6 => k _ H6 (e14.trans (e5.trans e6)) rfl
  | op kk a b =>
    obtain ⟨p, w, w2, rfl, hs, hw, hw2⟩ := fm_op hy
    have hT := ltx_op x kk a b
    have hca : max a.dp b.dp + 1 < d + 1 := hd
    have hmk : (OpK.mk kk).length ≤ 4 := by cases kk <;> decide
    have h1 := (par_len (decide (rank a < opR kk + 3 * x)) (ltx x a)).1
    have h2 := (par_len (decide (rank b < opR kk + 1 + 3 * x)) (ltx x b)).1
    have h1 : (ltx x a).length ≤ (lopT x a (opR kk + 3 * x)).length := h1
    have h2 : (ltx x b).length ≤ (lopT x b (opR kk + 1 + 3 * x)).length := h2
    rw [hT] at hlen
    simp only [List.length_append] at hlen
    refine q_asg (v := .str kk.w) (ev_atT (ev_var rfl) ev_c hs (atI_n (i := 0) rfl)) fun H1 e1 => w_no rfl (by cases kk <;> decide +kernel) fun H2 e2 => w_no rfl (by cases kk <;> decide +kernel) fun H3 e3 => w_no rfl (by cases kk <;> decide +kernel) fun H4 e4 => ?_
    have e14 := e1.trans (e2.trans (e3.trans e4))
    refine q_when (b := false) ?_ (fun q => by cases q) fun _ H5 e5 => ?_
    · have := et_or (b := decide (V.str kk.w = V.str "pow")) (et_test (ev_eq (σ := [some (.ref p), some (.int (x : Int)), some (.str kk.w), none, none, none]) (H := H4) (ev_var (i := 2) rfl) (ev_c (v := .str "neg")) rfl)) fun _ => et_test (ev_eq (ev_var (i := 2) rfl) (ev_c (v := .str "pow")) rfl)
      rwa [show (decide (V.str kk.w = V.str "neg") || decide (V.str kk.w = V.str "pow")) = false from by cases kk <;> decide +kernel] at this
    refine q_asg (v := vS (OpK.mk kk)) (ev_lit lmL rfl (by decide) (ev_var rfl) (lm_at kk)) fun H6 e6 => ?_
    have e16 := e14.trans (e5.trans e6)
    refine q_asg (v := .int ((opR kk : Nat) : Int)) (ev_lawRank (t := .op kk a b) (er_var rfl fun H7 e7 => (hy.ex e16).ex e7)) fun H7 e7 => ?_
    have e17 := e16.trans e7
    have opA : Ev (tCall (sp_law_operand K d) [] E0 (tCons (tOp (rIxT K) (tVar 0) (tC (.int 1))) (tCons (tOp xAdd (tVar 4) (tOp xMul (tC (.int 3)) (tVar 1))) (tCons (tVar 1) tNil)))) [some (.ref p), some (.int (x : Int)), some (.str kk.w), some (vS (OpK.mk kk)), some (.int ((opR kk : Nat) : Int)), none] H7 (vS (lopT x a (opR kk + 3 * x))) :=
      ev_lawOp (n := opR kk + 3 * x) (er_ev (ev_atT (v := w) (ev_var rfl) ev_c (ex_t e17 hs) (atI_n (i := 1) rfl)) fun H8 e8 => hw.ex (e17.trans e8)) (ev_is (ev_add (ev_var rfl) (ev_mul ev_c (ev_var rfl) (hmul 3 (by omega)))) (congrArg V.int (by omega))) (ev_var rfl) hx1 (by omega) ⟨hp.fine.1, by omega⟩
    have opB : Ev (tCall (sp_law_operand K d) [] E0 (tCons (tOp (rIxT K) (tVar 0) (tC (.int 2))) (tCons (tOp xAdd (tOp xAdd (tVar 4) (tC (.int 1))) (tOp xMul (tC (.int 3)) (tVar 1))) (tCons (tVar 1) tNil)))) [some (.ref p), some (.int (x : Int)), some (.str kk.w), some (vS (OpK.mk kk)), some (.int ((opR kk : Nat) : Int)), none] H7 (vS (lopT x b (opR kk + 1 + 3 * x))) :=
      ev_lawOp (n := opR kk + 1 + 3 * x) (er_ev (ev_atT (v := w2) (ev_var rfl) ev_c (ex_t e17 hs) (atI_n (i := 2) rfl)) fun H8 e8 => hw2.ex (e17.trans e8)) (ev_is (ev_add (ev_add (ev_var rfl) ev_c) (ev_mul ev_c (ev_var rfl) (hmul 3 (by omega)))) (congrArg V.int (by omega))) (ev_var rfl) hx1 (by omega) ⟨hp.fine.2, by omega⟩
    exact s_ret (v := vS (ltx x (.op kk a b))) (by rw [hT]; exact ev_addS (ev_addS opA (ev_var rfl) (by omega)) opB (by rw [List.length_append]; omega)) fun H8 e8 => k _ H8 (e17.trans e8) rfl
end
end Sk
set_option Elab.async false
set_option linter.all false
set_option maxRecDepth 100000
set_option maxHeartbeats 1000000
namespace Sk
open PySem L2 Evl
theorem q_tree {K : PySem.W.Frag} {d : Nat} {σ : L2.St} {H : Hp} {D : Ends} {tz : TS} {te : TE} {i j m c : Nat} {x y : V} {p : Addr} {n : Int} {l : List Int} {e : Nat} {z : Int} {ls : List (List Nat)} (h0 : σ[i]? = some (some x)) (h1 : σ[j]? = some (some (.ref p))) (h2 : Ev te σ H (.int z)) (hz : z = (e : Int)) (h3 : σ[m]? = some (some y))
    (hs : LawSt H x p n l) (hn : NmAt H y ls p) (hd : e < d) (k : ∀ v H' n' (t : Fm), ExP p H H' → H' p = some (.lst [.int n']) → FmV K H' v t → t.dp ≤ e → t.bn ls → tz D (σ.set c (some v)) H') : tSeq (tAsg (tCall (sp_law_tree K d) [] E0 (tCons (tVar i) (tCons (tVar j) (tCons te (tCons (tVar m) tNil))))) (gName c)) tz D σ H := by
  show tCall (sp_law_tree K d) [] E0 (tCons (tVar i) (tCons (tVar j) (tCons te (tCons (tVar m) tNil)))) σ H fun v H1 => tz D (σ.set c (some v)) H1
  exact x_tree h0 h1 h2 hz h3 hs hn hd k
theorem fm_mk2 {K : PySem.W.Frag} {H : Hp} {a : Addr} {k : UnK} {w : V} {t : Fm} (h : H a = some (.tup [.str k.w, w])) (hw : FmV K H w t) : FmV K H (.ref a) (.un k t) := dp2 (st_of h) (.str _) hw
theorem fm_mk3 {K : PySem.W.Frag} {H : Hp} {a : Addr} {k : OpK} {w w' : V} {t u : Fm} (h : H a = some (.tup [.str k.w, w, w'])) (hw : FmV K H w t) (hw' : FmV K H w' u) : FmV K H (.ref a) (.op k t u) := dp3 (st_of h) (.str _) hw hw'
theorem pure_law_tree {K : PySem.W.Frag} {d : Nat} {vs : List V} {H : Hp} {Q : VK} {E : XK} (h : sp_law_tree K (d + 1) vs H Q E) : t_law_tree K d { nx := fun _ H' => Q .non H', rt := Q } (start ["row", "state", "depth", "names", "number", "kind", "word", "many", "args", "k", "first"] vs) H := by
  obtain ⟨x, y, p, n, l, e, ls, rfl, hs, hn, hd, k⟩ := h
  refine q_next rfl rfl hs fun H1 p1 h1 => ?_
  have s1 := hs.to p1 h1
  have n1 := hn.to p1
  have hm := s1.num (n + 1)
  generalize atF l (n + 1) = m at hm ⊢
  refine q_asg (ev_is (ev_mod (ev_var rfl) ev_c (by decide)) (congrArg V.int (show ((m : Int) % 16) = ((m % 16 : Nat) : Int) by omega))) fun H2 e2 => ?_
  have p2 : ExP p H H2 := p1.trans (.of e2)
  have s2 := s1.ex e2
  have n2 := n1.ex e2
  obtain ⟨q, rfl, hqp, hq⟩ := n2.at_
  have h32 : ∀ {σ : L2.St} {H3 : Hp}, σ[4]? = some (some (.int (m : Int))) → Ev (tOp xFdiv (tVar 4) (tC (.int 32))) σ H3 (.int ((m / 32 : Nat) : Int)) := fun h => ev_is (ev_fdiv (ev_var h) ev_c ⟨by decide, by decide⟩) (congrArg V.int (by omega))
  have h16 : ∀ {σ : L2.St} {H3 : Hp}, σ[4]? = some (some (.int (m : Int))) → Ev (tOp xFdiv (tVar 4) (tC (.int 16))) σ H3 (.int ((m / 16 : Nat) : Int)) := fun h => ev_is (ev_fdiv (ev_var h) ev_c ⟨by decide, by decide⟩) (congrArg V.int (by omega))
  refine q_when (et_or (et_test (ev_le (ev_var rfl) ev_c)) fun _ => et_test (ev_lt (ev_var rfl) ev_c)) (fun _ H3 e3 => ?_) (fun hb H3 e3 => ?_)
  · have p3 := p2.trans (.of e3)
    refine q_when (b := decide ((0 : Int) < ((ls.map vS).length : Int)) && decide (((m / 16 % 2 : Nat) : Int) = 0)) (et_and (et_test (ev_gt (ev_len (ev_var rfl) (sq_of (e3 q _ hq))) ev_c)) fun _ => et_test (ev_is (ev_eq (ev_is (ev_mod (h16 rfl) ev_c (by decide)) (congrArg V.int (show ((m / 16 : Nat) : Int) % 2 = ((m / 16 % 2 : Nat) : Int) by omega))) ev_c rfl) (by simp))) (fun hb H4 e4 => ?_) (fun _ H4 e4 => ?_)
    · rw [Bool.and_eq_true, decide_eq_true_eq, List.length_map] at hb
      have hpos : 0 < ls.length := by omega
      have hlt : m / 32 % ls.length < ls.length := Nat.mod_lt _ hpos
      refine s_retU (eu_tup (vs := [.str "name", vS ls[m / 32 % ls.length]]) (ea_cons ev_c (ea_cons (ev_at (k := ((m / 32 % ls.length : Nat) : Int)) (ev_var rfl) (ev_is (ev_mod (h32 rfl) (ev_is (ev_len (ev_var rfl) (sq_of ((e3.trans e4) q _ hq))) (by rw [List.length_map])) (by omega)) (congrArg V.int (by omega))) (sq_of ((e3.trans e4) q _ hq)) (atI_nat (by rw [List.getElem?_map, List.getElem?_eq_getElem hlt] <;> rfl))) ea_nil)) (by show 2 ≤ 100000; omega)) fun a H5 ha e5 h5 => k (.ref a) H5 (n + 1) (.name ls[m / 32 % ls.length]) (p3.trans (.of (e4.trans e5))) ((e2.trans (e3.trans (e4.trans e5))) p _ h1) (dp2 (st_of h5) (.str _) (.str _)) (Nat.zero_le _) (List.getElem_mem hlt)
    · have hpick : ∃ i : Nat, i ≤ 31 ∧ ([V.int ((m / 32 % 10 : Nat) : Int), .int ((m / 32 : Nat) : Int), .int 0, .int ((3 + 2 * (m / 32 % 14) : Nat) : Int)] : List V)[m / 64 % 4]? = some (.int (i : Int)) := by
        rcases (show m / 64 % 4 = 0 ∨ m / 64 % 4 = 1 ∨ m / 64 % 4 = 2 ∨ m / 64 % 4 = 3 by omega) with h | h | h | h <;> rw [h]
        · exact ⟨_, by omega, rfl⟩
        · exact ⟨_, by omega, rfl⟩
        · exact ⟨0, by omega, rfl⟩
        · exact ⟨_, by omega, rfl⟩
      obtain ⟨i, hi, hpk⟩ := hpick
      refine s_retU (eu_tup (vs := [.str "int", .int (i : Int)]) (ea_cons ev_c (ea_cons (ev_pickL (k := m / 64 % 4) (ea_cons (ev_is (ev_mod (h32 rfl) ev_c (by decide)) (congrArg V.int (by omega))) (ea_cons (h32 rfl) (ea_cons ev_c (ea_cons (ev_is (ev_add ev_c (ev_mul ev_c (ev_mod (h32 rfl) ev_c (by decide)) (.inl (by decide)))) (congrArg V.int (show (3 : Int) + 2 * (((m / 32 : Nat) : Int) % 14) = ((3 + 2 * (m / 32 % 14) : Nat) : Int) by omega))) ea_nil)))) (by show 4 ≤ 1000; omega) (ev_is (ev_mod (ev_fdiv (ev_var rfl) ev_c ⟨by decide, by decide⟩) ev_c (by decide)) (congrArg V.int (by omega))) hpk) ea_nil)) (by show 2 ≤ 100000; omega)) fun a H5 ha e5 h5 => k (.ref a) H5 (n + 1) (.int i) (p3.trans (.of (e4.trans e5))) ((e2.trans (e3.trans (e4.trans e5))) p _ h1) (dp2 (st_of h5) (.str _) (.int _)) (Nat.zero_le _) hi
  rw [Bool.or_eq_false_iff, decide_eq_false_iff_not, decide_eq_false_iff_not] at hb
  obtain ⟨e', rfl⟩ : ∃ e', e = e' + 1 := ⟨e - 1, by omega⟩
  have hd' : e' < d := by omega
  have p3 := p2.trans (.of e3)
  have s3 := s2.ex e3
  have n3 : NmAt H3 (.ref q) ls p := n2.ex e3
  have hz : ((e' + 1 : Nat) : Int) - 1 = (e' : Int) := by omega
  have hm1 : ∀ {σ : L2.St} {H4 : Hp}, σ[2]? = some (some (.int ((e' + 1 : Nat) : Int))) → Ev (tOp xSub (tVar 2) (tC (.int 1))) σ H4 (.int (((e' + 1 : Nat) : Int) - 1)) := fun h => ev_sub (ev_var h) ev_c
  refine q_when (et_test (ev_lt (ev_var rfl) ev_c)) (fun hb2 H4 e4 => ?_) (fun hb2 H4 e4 => ?_)
  · have hlt := of_decide_eq_true hb2
    obtain ⟨kk, hkk⟩ := tree_word (j := m % 16 - 3) (by omega)
    refine q_asg (v := .str kk.w) (ev_pickL (k := m % 16 - 3) (ea_cons ev_c (ea_cons ev_c (ea_cons ev_c (ea_cons ev_c (ea_cons ev_c (ea_cons ev_c (ea_cons ev_c ea_nil))))))) (by show 7 ≤ 1000; omega) (ev_is (ev_sub (ev_var rfl) ev_c) (congrArg V.int (by omega))) hkk) fun H5 e5 => ?_
    have e35 := e4.trans e5
    refine q_tree rfl rfl (hm1 rfl) hz rfl (s3.ex e35) (n3.ex e35) hd' fun v H6 n6 t p6 h6 ht hdp hbn => ?_
    have s6 := (s3.ex e35).to p6 h6
    refine ⟨.str kk.w, rfl, v, rfl, ?_⟩
    refine x_tree rfl rfl (hm1 rfl) hz rfl s6 ((n3.ex e35).to p6) hd' fun v' H7 n7 t' p7 h7 ht' hdp' hbn' => ?_
    refine ⟨by show 3 ≤ _; decide, fun a ha => ?_⟩
    have e8 : Ex H7 (upd H7 a (.tup [.str kk.w, v, v'])) := Ex.new ha
    exact k (.ref a) _ n7 (.op kk t t') ((p3.trans (.of e35)).trans (p6.trans (p7.trans (.of e8)))) (e8 p _ h7) (fm_mk3 upd_same ((ht.tex (p7.tex s6.st)).ex e8) (ht'.ex e8)) (by show max t.dp t'.dp + 1 ≤ _; omega) ⟨hbn, hbn'⟩
  refine q_when (et_test (ev_eq (ev_var rfl) ev_c rfl)) (fun hb3 H5 e5 => ?_) (fun hb3 H5 e5 => ?_)
  · refine x_tree rfl rfl (hm1 rfl) hz rfl (s3.ex (e4.trans e5)) (n3.ex (e4.trans e5)) hd' fun v H6 n6 t p6 h6 ht hdp hbn => ?_
    refine ⟨by show 2 ≤ _; decide, fun a ha => ?_⟩
    have e8 : Ex H6 (upd H6 a (.tup [.str UnK.neg.w, v])) := Ex.new ha
    exact k (.ref a) _ n6 (.un .neg t) ((p3.trans (.of (e4.trans e5))).trans (p6.trans (.of e8))) (e8 p _ h6) (fm_mk2 upd_same (ht.ex e8)) (Nat.succ_le_succ hdp) hbn
  refine q_when (et_test (ev_eq (ev_var rfl) ev_c rfl)) (fun hb4 H6 e6 => ?_) (fun hb4 H6 e6 => ?_)
  · refine x_tree rfl rfl (hm1 rfl) hz rfl (s3.ex (e4.trans (e5.trans e6))) (n3.ex (e4.trans (e5.trans e6))) hd' fun v H7 n6 t p6 h6 ht hdp hbn => ?_
    refine ⟨by show 2 ≤ _; decide, fun a ha => ?_⟩
    have e8 : Ex H7 (upd H7 a (.tup [.str UnK.pow.w, v])) := Ex.new ha
    exact k (.ref a) _ n6 (.un .pow t) ((p3.trans (.of (e4.trans (e5.trans e6)))).trans (p6.trans (.of e8))) (e8 p _ h6) (fm_mk2 upd_same (ht.ex e8)) (Nat.succ_le_succ hdp) hbn
  have e36 := e4.trans (e5.trans e6)
  obtain ⟨w, c, hw, hc, hf⟩ := tree_fn (j := m / 16 % 8) (by omega)
  have hix : ∀ {σ : L2.St} {H3 : Hp}, σ[4]? = some (some (.int (m : Int))) → Ev (tOp xMod (tOp xFdiv (tVar 4) (tC (.int 16))) (tC (.int 8))) σ H3 (.int ((m / 16 % 8 : Nat) : Int)) := fun h => ev_is (ev_mod (h16 h) ev_c (by decide)) (congrArg V.int (by omega))
  refine q_asg (v := .str w) (ev_pickL (k := m / 16 % 8) (ea_cons ev_c (ea_cons ev_c (ea_cons ev_c (ea_cons ev_c (ea_cons ev_c (ea_cons ev_c (ea_cons ev_c (ea_cons ev_c ea_nil)))))))) (by show 8 ≤ 1000; omega) (hix rfl) hw) fun H7 e7 => ?_
  refine q_asg (v := .int (c : Int)) (ev_pickL (k := m / 16 % 8) (ea_cons ev_c (ea_cons ev_c (ea_cons ev_c (ea_cons ev_c (ea_cons ev_c (ea_cons ev_c (ea_cons ev_c (ea_cons ev_c ea_nil)))))))) (by show 8 ≤ 1000; omega) (hix rfl) hc) fun H8 e8 => ?_
  refine q_asgL (el_lst ea_nil (by decide)) fun g H9 hg e9 h9 => ?_
  have hgp : g ≠ p := fun z => by
    have := (e36.trans (e7.trans e8)) p _ s3.st
    rw [← z, hg] at this; cases this
  have hgq : q ≠ g := fun z => by
    have := (e3.trans (e36.trans (e7.trans e8))) q _ hq
    rw [z, hg] at this; cases this
  have e39 := e36.trans (e7.trans (e8.trans e9))
  have s9 := s3.ex e39
  obtain ⟨r, rfl, hrp, hr⟩ := s3.row
  have hgr : r ≠ g := fun z => by
    have := (e36.trans (e7.trans e8)) r _ hr
    rw [z, hg] at this; cases this
  have hc2 : c ≤ 2 := by rcases hf with ⟨h, _⟩ | ⟨h, _⟩ <;> omega
  refine q_forR1 (ea_cons (ev_var rfl) ea_nil) ⟨by omega, by omega⟩ (fun i σ H' => ∃ (z : Option V) (ts : List Fm) (ys : List V) (n' : Int), σ = [some (.ref r), some (.ref p), some (.int ((e' + 1 : Nat) : Int)), some (.ref q), some (.int (m : Int)), some (.int ((m % 16 : Nat) : Int)), some (.str w), some (.int (c : Int)), some (.ref g), z, none] ∧
      (∀ a o, a ≠ p → a ≠ g → H9 a = some o → H' a = some o) ∧ H' p = some (.lst [.int n']) ∧ H' g = some (.lst ys) ∧ ItemsR (fun (t : Fm) v H => FmV K H v t) ts ys H' ∧ ts.length = i ∧ ∀ t ∈ ts, t.dp ≤ e' ∧ t.bn ls) (fun H10 e10 => ⟨none, [], [], n + 1, rfl, fun a o _ _ h => e10 a o h, (e10 p _ s9.st), e10 g _ h9, .nil, rfl, fun t ht => by cases ht⟩) ?_ ?_
  · rintro i σ H10 hi ⟨z, ts, ys, n', rfl, hk, hp, hgl, hit, hlen, hall⟩
    have hi2 : i < c := by omega
    have sx : LawSt H10 (.ref r) p n' l := ⟨⟨r, rfl, hrp, hk r _ hrp hgr (e39 r _ hr)⟩, s3.len, s3.bnd, hp⟩
    have nx : NmAt H10 (.ref q) ls p := ⟨⟨q, rfl, hqp, hk q _ hqp hgq ((e3.trans e39) q _ hq)⟩, hn.len⟩
    refine ⟨.ref g, rfl, .inl ⟨rfl, ys, sq_of hgl⟩, ?_⟩
    refine x_tree rfl rfl (hm1 rfl) hz rfl sx nx hd' fun v H11 n11 t p11 h11 ht hdp hbn => ?_
    have hgl2 : H11 g = some (.lst ys) := p11 g _ hgp hgl
    refine ⟨g, ys, v, rfl, rfl, hgl2, sz_lt (by rw [hit.1]; omega), ?_⟩
    have tx : TEx H11 (upd H11 g (.lst (ys ++ [v]))) := TEx.put hgl2
    refine ⟨_, ts ++ [t], ys ++ [v], n11, rfl, fun a o h1 h2 h => by rw [upd_ne h2]; exact p11 a o h1 (hk a o h1 h2 h), by rw [upd_ne hgp.symm]; exact h11, upd_same, ?_, by rw [List.length_append, hlen]; rfl, fun u hu => ?_⟩
    · exact (hit.tex (fun _ => fmT) ((p11.tex hp).trans tx)).snoc (a := t) (ht.tex tx)
    · rcases List.mem_append.mp hu with hu | hu
      · exact hall u hu
      · rw [List.mem_singleton.mp hu]; exact ⟨hdp, hbn⟩
  · rintro σ H10 ⟨z, ts, ys, n', rfl, hk, hp, hgl, hit, hlen, hall⟩
    rw [Int.toNat_natCast] at hlen
    have p10 : ExP p H H10 := fun a o hap ha => by
      have h9' := (p3.trans (.of e39)) a o hap ha
      refine hk a o hap (fun z => ?_) h9'
      have := (p3.trans (.of (e36.trans (e7.trans e8)))) a o hap ha
      rw [z, hg] at this; cases this
    have hlen2 : ts.length = c := hlen
    refine s_retR (er_tup (ea_three (R := fun v _ => v = .str "call") (R' := fun v _ => v = .str w) (R'' := fun v H2 => ∃ b ys', v = .ref b ∧ SqT K H2 b ys' ∧ ItemsR (fun (t : Fm) v H => FmV K H v t) ts ys' H2) (er_is ev_c) monoC (er_is (ev_var rfl)) monoC
        ((er_tupleOf (R := fun ys H2 => ItemsR (fun (t : Fm) v H => FmV K H v t) ts ys H2) (er_ev (ev_var rfl) fun H4 e4 => ⟨g, ys, rfl, sq_of (e4 g _ hgl), hit.ex (fun _ => fmT.mono) e4⟩) fun ys H1 H2 e h => h.ex (fun _ => fmT.mono) e).imp fun v H4 e4 ⟨b, ys', g1, g2, g3⟩ => ⟨b, ys', g1, st_of g2, g3⟩)
        fun v H1 H2 e ⟨b, ys', g1, g2, g3⟩ => ⟨b, ys', g1, ex_t e g2, g3.ex (fun _ => fmT.mono) e⟩)
      (fun vs H1 H2 e ⟨v1, v2, v3, g0, g1, g2, b, ys', g3, g4, g5⟩ => ⟨v1, v2, v3, g0, g1, g2, b, ys', g3, ex_t e g4, g5.ex (fun _ => fmT.mono) e⟩)
      fun vs H2 ⟨v1, v2, v3, g, _⟩ => by rw [g]; show 3 ≤ 100000; omega) fun v H11 e11 ⟨a, vs, g1, g2, v1, v2, v3, g3, g4, g5, b, ys', g6, g7, g8⟩ => ?_
    subst g1 g3 g4 g5 g6
    obtain ⟨gl, gi⟩ := g8
    have p11 := p10.trans (.of e11)
    rcases hf with ⟨rfl, f, rfl⟩ | ⟨rfl, f, rfl⟩
    · match ts, ys', hlen2, gl with
      | [t], [u], _, _ =>
        have hu := gi 0 u t rfl rfl
        have ha := hall t List.mem_cons_self
        exact k (.ref a) H11 n' (.fna f t) p11 (e11 p _ hp) (dp3 (st_of g2) (.str _) (.str _) (dp1 g7 hu)) (Nat.succ_le_succ ha.1) ha.2
    · match ts, ys', hlen2, gl with
      | [t, t2], [u, u2], _, _ =>
        have hu := gi 0 u t rfl rfl
        have hu2 := gi 1 u2 t2 rfl rfl
        have ha := hall t List.mem_cons_self
        have ha2 := hall t2 (List.mem_cons_of_mem _ List.mem_cons_self)
        exact k (.ref a) H11 n' (.fnb f t t2) p11 (e11 p _ hp) (dp3 (st_of g2) (.str _) (.str _) (dp2 g7 hu hu2)) (by show max t.dp t2.dp + 1 ≤ _; omega) ⟨ha.2, ha2.2⟩
end Sk
set_option Elab.async false
set_option linter.all false
set_option maxRecDepth 100000
set_option maxHeartbeats 1000000
namespace Sk
namespace Rd
open Sk
theorem tail_drop (l : Ts) : l.tail = l.drop 1 := by rw [List.drop_one]
end Rd
end Sk
set_option Elab.async false
set_option linter.all false
set_option maxRecDepth 100000
set_option maxHeartbeats 2000000
namespace Sk
open PySem L2 Evl
end Sk
set_option Elab.async false
set_option linter.all false
set_option maxRecDepth 100000
set_option maxHeartbeats 1000000
namespace Sk
open PySem L2 Evl Rd
end Sk
set_option Elab.async false
set_option linter.all false
set_option maxRecDepth 100000
set_option maxHeartbeats 1000000
namespace Sk
open PySem L2 Evl Rd
end Sk
set_option Elab.async false
set_option linter.all false
set_option maxRecDepth 100000
set_option maxHeartbeats 1000000
namespace Sk
open PySem L2 Evl Rd
end Sk
set_option Elab.async false
set_option linter.all false
set_option maxRecDepth 100000
set_option maxHeartbeats 1000000
namespace Sk
open PySem L2 Evl Rd
end Sk
set_option Elab.async false
set_option linter.all false
set_option maxRecDepth 100000
set_option maxHeartbeats 1000000
namespace Sk
open PySem L2 Evl Rd
def Fm.dd : Fm → Nat
  | .int _ => 1
  | .name _ => 1
  | .un _ a => a.dd + 1
  | .op _ a b => max a.dd b.dd + 1
  | .fna _ a => a.dd + 2
  | .fnb _ a b => max a.dd b.dd + 2
theorem d1 (x : PyData) : (PyData.tuple [x]).depth ≤ x.depth + 1 := by
  rw [PyData.depth, PyData.depthAll, PyData.depthAll]; omega
theorem d2 (x y : PyData) : (PyData.tuple [x, y]).depth ≤ max x.depth y.depth + 1 := by
  rw [PyData.depth, PyData.depthAll, PyData.depthAll, PyData.depthAll]; omega
theorem d3 (x y z : PyData) : (PyData.tuple [x, y, z]).depth ≤ max x.depth (max y.depth z.depth) + 1 := by
  rw [PyData.depth, PyData.depthAll, PyData.depthAll, PyData.depthAll, PyData.depthAll]; omega
theorem dstr (s : Str) : (PyData.str s).depth = 0 := rfl
theorem dint (i : Int) : (PyData.int i).depth = 0 := rfl
theorem fm_depth : ∀ t : Fm, t.data.depth ≤ t.dd
  | .int n => by have := d2 (.str "int") (.int (n : Int)); rw [dstr, dint] at this; exact this
  | .name s => by have := d2 (.str "name") (.str (mkS s)); rw [dstr, dstr] at this; exact this
  | .un k a => by
    have := d2 (.str k.w) a.data
    have := fm_depth a
    rw [dstr] at *
    show (PyData.tuple [.str k.w, a.data]).depth ≤ a.dd + 1
    omega
  | .op k a b => by
    have := d3 (.str k.w) a.data b.data
    have := fm_depth a
    have := fm_depth b
    rw [dstr] at *
    show (PyData.tuple [.str k.w, a.data, b.data]).depth ≤ max a.dd b.dd + 1
    omega
  | .fna f a => by
    have := d3 (.str "call") (.str f.w) (.tuple [a.data])
    have := d1 a.data
    have := fm_depth a
    rw [dstr, dstr] at *
    show (PyData.tuple [.str "call", .str f.w, .tuple [a.data]]).depth ≤ a.dd + 2
    omega
  | .fnb f a b => by
    have := d3 (.str "call") (.str f.w) (.tuple [a.data, b.data])
    have := d2 a.data b.data
    have := fm_depth a
    have := fm_depth b
    rw [dstr, dstr] at *
    show (PyData.tuple [.str "call", .str f.w, .tuple [a.data, b.data]]).depth ≤ max a.dd b.dd + 2
    omega
theorem lay1 {x : PyData} (h : x.canLay0 = true) : (PyData.tuple [x]).canLay0 = true := by rw [PyData.canLay0, PyData.canLayAll0, PyData.canLayAll0, h]; rfl
theorem lay2 {x y : PyData} (h : x.canLay0 = true) (h' : y.canLay0 = true) : (PyData.tuple [x, y]).canLay0 = true := by rw [PyData.canLay0, PyData.canLayAll0, PyData.canLayAll0, PyData.canLayAll0, h, h']; rfl
theorem lay3 {x y z : PyData} (h : x.canLay0 = true) (h' : y.canLay0 = true) (h'' : z.canLay0 = true) : (PyData.tuple [x, y, z]).canLay0 = true := by rw [PyData.canLay0, PyData.canLayAll0, PyData.canLayAll0, PyData.canLayAll0, PyData.canLayAll0, h, h', h'']; rfl
theorem layS {s : Str} (h : PyData.strOk s = true) : (PyData.str s).canLay0 = true := by rw [PyData.canLay0]; exact h
theorem layI (i : Int) : (PyData.int i).canLay0 = true := by rw [PyData.canLay0]
theorem name_ok {s : List Nat} (h : isName s = true) : PyData.strOk (mkS s) = true := by
  have hn : isName s = (!(isFn s || decide (s ∈ kws)) && (decide (1 ≤ s.length ∧ s.length ≤ 4) && s.all fun c => decide (c ∈ small))) := rfl
  rw [hn, Bool.and_eq_true, Bool.and_eq_true, decide_eq_true_eq] at h
  show (s.toArray.all fun c => decide (c < 0x110000)) = true
  rw [Array.all_eq_true']
  intro c hc
  have := of_decide_eq_true (List.all_eq_true.mp h.2.2 c (by simpa using hc))
  have sub : ∀ c ∈ small, c < 0x110000 := by decide
  exact decide_eq_true (sub c this)
theorem fm_lay : ∀ t : Fm, fine dgT t → t.data.canLay0 = true
  | .int n, _ => lay2 (layS (by decide +kernel)) (layI _)
  | .name s, h => lay2 (layS (by decide +kernel)) (layS (name_ok h))
  | .un k a, h => lay2 (layS (by cases k <;> decide +kernel)) (fm_lay a h)
  | .op k a b, h => lay3 (layS (by cases k <;> decide +kernel)) (fm_lay a h.1) (fm_lay b h.2)
  | .fna f a, h => lay3 (layS (by decide +kernel)) (layS (by cases f <;> decide +kernel)) (lay1 (fm_lay a h))
  | .fnb f a b, h => lay3 (layS (by decide +kernel)) (layS (by cases f <;> decide +kernel)) (lay2 (fm_lay a h.1) (fm_lay b h.2))
namespace Rd
end Rd
/-- the same tree twice -/
theorem ev_neFm {K : PySem.W.Frag} {H : Hp} {σ : L2.St} {te tf : TE} {t : Fm} (h : ER te σ H (fun v H => FmV K H v t)) (h' : ER tf σ H (fun v H => FmV K H v t)) (hf : fine dgT t) (hd : t.dd ≤ 100) : Ev (tOp (rNeN K) te tf) σ H (.bl false) :=
  ev_neSD (d := t.data) (h.imp fun v H2 _ g => g) (h'.imp fun v H2 _ g => g) (fm_lay t hf) (Nat.le_trans (fm_depth t) hd)
end Sk
set_option Elab.async false
set_option linter.all false
set_option maxRecDepth 100000
set_option maxHeartbeats 1000000
namespace Sk
open PySem L2 Evl Rd
end Sk
set_option Elab.async false
set_option linter.all false
set_option maxRecDepth 100000
set_option maxHeartbeats 1000000
namespace Sk
open PySem L2 Evl Rd
namespace Rd
open Tk
end Rd
end Sk
set_option Elab.async false
set_option linter.all false
set_option maxRecDepth 100000
set_option maxHeartbeats 2000000
namespace Sk
open PySem L2 Evl Rd
section
variable {K : PySem.W.Frag} {H H' : Hp} {σ : L2.St} {te tf tg : TE} {E : XK} {Q : VK}
def lsN : List (List Nat) := [[97], [98], [97, 98], [122, 122, 122, 122]]
end
end Sk
set_option Elab.async false
set_option linter.all false
set_option maxRecDepth 100000
set_option maxHeartbeats 1000000
namespace Sk
open PySem PySem.Spec PyProof.Rows L2
/-- behind the expression a token is out -/
def PEB (X : Cx) (e : Expr) (t : TE) : Prop := ∀ (pins : List (Addr × Obj)) (s : Shared) (σ : L2.St) (H : Hp) (Q : VK), Inv X pins σ H s → t σ H Q → wpAny (model X.prog X.w) X.A (eval e X.env) (fun v s' => 1 ≤ s'.toks ∧ EP X pins σ Q v s') X.xe s
/-- .. before the test, behind it -/
def PTT (X : Cx) (e : Expr) (t : TT) : Prop := ∀ (pins : List (Addr × Obj)) (s : Shared) (σ : L2.St) (H : Hp) (Q : Bool → Hp → Prop), 1 ≤ s.toks → Inv X pins σ H s → t σ H Q → wpAny (model X.prog X.w) X.A (isTrue e X.env (eval e X.env)) (TP X pins σ Q) X.xe s
def PTB (X : Cx) (e : Expr) (t : TT) : Prop := ∀ (pins : List (Addr × Obj)) (s : Shared) (σ : L2.St) (H : Hp) (Q : Bool → Hp → Prop), Inv X pins σ H s → t σ H Q → wpAny (model X.prog X.w) X.A (isTrue e X.env (eval e X.env)) (fun b s' => 1 ≤ s'.toks ∧ TP X pins σ Q b s') X.xe s
section
variable {X : Cx} {a b e : Expr} {ta tb te : TE} {pos p : Pos} {α : Type}
/-- a tree that begins with a token out ends so -/
theorem with1 {t : Sem α} {Q : α → Shared → Prop} {s : Shared} (h1 : 1 ≤ s.toks) (h : wpAny (model X.prog X.w) X.A t Q X.xe s) : wpAny (model X.prog X.w) X.A t (fun v s' => 1 ≤ s'.toks ∧ Q v s') X.xe s :=
  wpAny_mono (PySem.wpAny_toks_of h1 h) (fun _ _ z => z) fun _ _ z => z.2
theorem peb_str {x : Str} {j : Nat} {op : Operator} {r : R2} (ho : OpR X (binaryOp op) r) (hb : PET X b tb) : PEB X (.BinOp (.Constant (.str x) j p) op b pos) (tOp r (tC (.str x)) tb) := by
  intro pins s σ H Q I h
  refine wpAny_BinOp (Calls.Constant_str ?_)
  have h1 : 1 ≤ ({ s with toks := s.toks + 1 } : Shared).toks := Nat.le_add_left 1 _
  have q : tb σ H fun y H2 => r (.str x) y H2 Q := h
  refine thn (with1 h1 (hb pins _ σ H _ h1 (I.tok _) q)) fun u s2 ⟨h2, y, H2, I2, r2, q2⟩ => with1 h2 (ho pins s2 σ H2 (.str x) y _ u Q I2 ⟨_, rfl⟩ r2 q2)
theorem peb_op {op : Operator} {r : R2} (ho : OpR X (binaryOp op) r) (ha : PEB X a ta) (hb : PE X b tb) : PEB X (.BinOp a op b pos) (tOp r ta tb) := by
  intro pins s σ H Q I h
  refine wpAny_BinOp (thn (ha pins s σ H _ I h) fun v s1 ⟨h1, x, H1, I1, r1, q1⟩ => ?_)
  exact thn (with1 h1 (hb.run pins s1 σ H1 _ I1 q1)) fun u s2 ⟨h2, y, H2, I2, r2, q2⟩ => with1 h2 (ho pins s2 σ H2 x y v u Q I2 r1 r2 q2)
section
variable {CX : CXT} {k : Nat} {f : Addr} {fd : FuncData} {ps : List Str} {sp : Sp} {x : Str} {ds : List Value} {dvs : List V} {E : XK}
theorem peb_call1 (F : FnOk X.prog X.w X.K X.mg X.base CX k f fd ps sp) (hr : Room k X.A) (hg : Gl X x) (hm : X.mg x = some (.ref f)) (hk : PySem.W.keepIn X.K (.ref f) = true) (hb : Binds X.K fd ps ds) (hd : Vals dvs ds) (hx : Passes CX X E)
    (ha : PEB X e te) (hdb : (x == ("__debug__" : Str)) = false := by decide) (hs : starEach [e] X.env = [(false, eval e X.env)] := by rfl) : PEB X (.Call (.Name x p) [e] [] pos) (tCall sp dvs E (tCons te tNil)) := by
  intro pins s σ H Q I h
  refine wpAny_Call_Name_kw (ld_glob I hg hm ?_ hdb)
  refine PySem.W.callWith_K (h₀ := X.base) I.ok.mod.kin hk (rest := []) (e := e) ?_ hs rfl
  rw [hs]
  show wpAny _ _ (spliced [(false, eval e X.env)]) _ _ s
  refine Calls.spliced_cons (thn (ha pins s σ H _ I h) fun u s1 ⟨h1, y, H1, I1, r1, q1⟩ => Calls.spliced_nil ⟨I1.kIn, with1 h1 ?_⟩)
  exact run_fn F hr hb hd hx I1 (.cons r1 .nil) q1
theorem pet_call1 (F : FnOk X.prog X.w X.K X.mg X.base CX k f fd ps sp) (hr : Room k X.A) (hg : Gl X x) (hm : X.mg x = some (.ref f)) (hk : PySem.W.keepIn X.K (.ref f) = true) (hb : Binds X.K fd ps ds) (hd : Vals dvs ds) (hx : Passes CX X E)
    (ha : PET X e te) (hdb : (x == ("__debug__" : Str)) = false := by decide) (hs : starEach [e] X.env = [(false, eval e X.env)] := by rfl) : PET X (.Call (.Name x p) [e] [] pos) (tCall sp dvs E (tCons te tNil)) := by
  intro pins s σ H Q h0 I h
  refine wpAny_Call_Name_kw (ld_glob I hg hm ?_ hdb)
  refine PySem.W.callWith_K (h₀ := X.base) I.ok.mod.kin hk (rest := []) (e := e) ?_ hs rfl
  rw [hs]
  show wpAny _ _ (spliced [(false, eval e X.env)]) _ _ s
  refine Calls.spliced_cons (thn (ha pins s σ H _ h0 I h) fun u s1 ⟨y, H1, I1, r1, q1⟩ => Calls.spliced_nil ⟨I1.kIn, ?_⟩)
  exact run_fn F hr hb hd hx I1 (.cons r1 .nil) q1
end
theorem ptb_cmp {op : CmpOp} {r : R2} (ho : OpR X (compareOp op) r) (ha : PEB X a ta) (hb : PE X b tb) (hm : behindInMarks op b = false) : PTB X (.Compare a [op] [b] pos) (tTest (tOp r ta tb)) := by
  intro pins s σ H Q I h
  refine wpAny_isTrue_Compare1 (thn (ha pins s σ H _ I h) fun v s1 ⟨h1, x, H1, I1, r1, q1⟩ => thn (with1 h1 (hb.run pins s1 σ H1 _ I1 q1)) fun u s2 ⟨h2, y, H2, I2, r2, q2⟩ =>
    thn (with1 h2 (ho pins s2 σ H2 x y v u _ I2 r1 r2 q2)) fun c s3 ⟨h3, z, H3, I3, r3, k, e, q3⟩ => ?_) hm
  subst e
  cases r3
  exact wpAny_truthy_bool ⟨h3, H3, I3, q3⟩
theorem ptt_cmp {op : CmpOp} {r : R2} (ho : OpR X (compareOp op) r) (ha : PET X a ta) (hb : PE X b tb) (hm : behindInMarks op b = false) : PTT X (.Compare a [op] [b] pos) (tTest (tOp r ta tb)) := by
  intro pins s σ H Q h0 I h
  refine wpAny_isTrue_Compare1 (thn (ha pins s σ H _ h0 I h) fun v s1 ⟨x, H1, I1, r1, q1⟩ => thn (hb.run pins s1 σ H1 _ I1 q1) fun u s2 ⟨y, H2, I2, r2, q2⟩ =>
    thn (ho pins s2 σ H2 x y v u _ I2 r1 r2 q2) fun c s3 ⟨z, H3, I3, r3, k, e, q3⟩ => ?_) hm
  subst e
  cases r3
  exact wpAny_truthy_bool ⟨H3, I3, q3⟩
theorem pt_orT {tA tB' : TT} (ha : PTB X a tA) (hb : PTT X b tB') : PT X (.BoolOp .Or [a, b] pos) (tOr tA tB') := by
  refine ⟨fun pins s σ H Q I h => ?_⟩
  refine isTrue_or (thn (ha pins s σ H _ I h) fun c s1 ⟨h1, H1, I1, q1⟩ => ?_)
  cases c with
  | true => exact ⟨H1, I1, q1⟩
  | false =>
    refine isTrue_or (thn (hb pins s1 σ H1 _ h1 I1 q1) fun c s2 e => ?_)
    cases c with
    | false => exact isTrue_or_nil e
    | true => exact e
end
end Sk
set_option Elab.async false
set_option linter.all false
set_option maxRecDepth 100000
set_option maxHeartbeats 1000000
namespace Sk
open PySem PySem.Spec PyProof.Rows L2 PySem.Froz
def Wlk (w : World) (D : SD) : Prop := Ris D.2.2.place.toList ∧ (w.params.followText "set-order" = true ∨ D.2.2.led = true)
/-- the set at a holds the texts l, each once -/
def TxAt (P : Program) (w : World) (h : Heap) (a : Addr) (l : List Str) : Prop := ∃ D : SD, h.get? a = some (sObj "set" D) ∧ TxOk P w D l ∧ Wlk w D ∧ l.Nodup
section
variable {P : Program} {w : World} {h h' : Heap} {a : Addr} {l : List Str} {D : SD} {A : Around} {E : Value → Shared → Prop} {s : Shared}
theorem TxAt.go (R : TxAt P w h a l) (k : ∀ o, h.get? a = some o → h'.get? a = some o) : TxAt P w h' a l := by
  obtain ⟨D, hD, r⟩ := R
  exact ⟨D, k _ hD, r⟩
theorem wlk_tail {ep : Nat} {es : Array (Int × Value)} {t : SetTable} {b : Bool} (W : Wlk w (es, ep, t)) : Wlk w (tailTx ep es t b) := by
  unfold tailTx
  by_cases c : (!b && t.tooFull) = true
  · rw [if_pos c]
    exact ⟨relayAll_ris t es _, W.2.imp id fun z => (relayAll_led t es _).trans z⟩
  · rw [if_neg c]
    exact W
theorem wlk_add {v : Value} {k : Int} (W : Wlk w D) : Wlk w (addTx k v D) := by
  unfold addTx
  refine wlk_tail ⟨?_, ?_⟩
  · have q := layNew_ris D.2.2 D.1 k v W.1
    split
    · exact q
    · exact q
  · refine W.2.imp id fun z => ?_
    have q := (layNew_led D.2.2 D.1 k v).trans z
    split
    · exact q
    · exact q
theorem SameOne {X : Obj} : Heap.SameBut a h (h.update a fun _ => X) := Heap.SameBut.update h a _
/-- found.add(k) of texts -/
theorem tx_hashed {k : Str} {u : Tok} {Q : Bool → Shared → Prop} (R : TxAt P w s.heap a l) (hb : l.length + 1 < scanBound)
    (hQ : ∀ (b : Bool) (h' : Heap), Heap.SameBut a s.heap h' → TxAt P w h' a (if k ∈ l then l else k :: l) → Q b { s with heap := h' }) :
    wpAny (model P w) A (setAddHashed a (.str k u) (hashStr w k)) Q E s := by
  obtain ⟨D, hD, F, W, nd⟩ := R
  by_cases hk : k ∈ l
  · obtain ⟨es, ep, t⟩ := D
    have hel : ElemsOf (strKind P w) es.toList := F.el
    have hz : es.size = l.length := F.sz
    have hkey : (strKind P w).is k (.str k u) = true := is_str k u
    have R0 : TxAt P w s.heap a (if k ∈ l then l else k :: l) := by rw [if_pos hk]; exact ⟨_, hD, F, W, nd⟩
    unfold setAddHashed setAddHashedIn
    refine wpAny_holding ?_
    refine wpAny_bind (wpAny_setState_of hD rfl F.fit ?_)
    dsimp only
    rw [byScan_of rfl (show es.size < scanBound by omega) hel, if_pos rfl]
    unfold setAddByScan
    refine wpAny_bind (wpAny_bind (wpAny_rule ?_))
    refine wpAny_bind (wpAny_setScan_of hkey hD rfl F.fit hel ?_)
    obtain ⟨e, he, q⟩ := (F.mem k).mp hk
    cases c : List.findIdx? (fun e => (strKind P w).is k e.2) es.toList with
    | none =>
      have z := List.findIdx?_eq_none_iff.mp c e he
      rw [q] at z
      cases z
    | some j => exact wpAny_pure (wpAny_pure (hQ _ s.heap (Heap.SameBut.refl a _) R0))
  · refine add_x hD F hk hb (hQ true _ SameOne ?_)
    rw [if_neg hk]
    exact ⟨_, get_upd _ hD rfl, add_ok u F, wlk_add W, List.nodup_cons.mpr ⟨hk, nd⟩⟩
theorem ext_ok {H : Hp} (R : TxAt P w h a l) : ObjOk P w H h a (.ext fun h => TxAt P w h a l) := by
  obtain ⟨D, hD, r⟩ := id R
  exact ⟨R, ⟨_, hD⟩, fun h1 h2 p k => p.go k⟩
theorem tset_nil {u : Bool} (hu : w.params.followText "set-order" = true ∨ u = true) (hD : h.get? a = some (sObj "set" (#[], 0, .fresh 0 0 u))) : TxAt P w h a [] :=
  ⟨_, hD, TxOk.nil rfl, ⟨List.Pairwise.nil, hu⟩, List.nodup_nil⟩
end
/-- the set of the texts l -/
def SetT (P : Program) (w : World) (a : Addr) (l : List Str) : HO := .ext fun h => TxAt P w h a l
section
variable {X : Cx} {H : Hp} {σ : L2.St} {a : Addr} {l : List Str} {pins : List (Addr × Obj)} {s : Shared}
theorem setT_at (I : Inv X pins σ H s) (ha : H a = some (SetT X.prog X.w a l)) : TxAt X.prog X.w s.heap a l := (I.hok a _ ha).1
/-- set() -/
def rSetT0 (P : Program) (w : World) : List V → Hp → VK → Prop := fun xs H Q => xs = [] ∧ ∀ p, H p = none → Q (.ref p) (upd H p (SetT P w p []))
theorem cr_setT0 : CallR X (.type "set") (rSetT0 X.prog X.w) := by
  intro pins s σ H xs us Q I r ⟨hx, q⟩
  subst hx
  cases r
  refine setR_new fun R => ?_
  have R2 : TxAt X.prog X.w (s.heap.push { cls := .type "set", dict := none, data := .set #[] 0 (.fresh 0 0 (!X.w.params.followText "set-order")) }) s.heap.objs.size [] := by
    refine tset_nil (u := !X.w.params.followText "set-order") ?_ (Heap.get?_push_size _ rfl)
    cases X.w.params.followText "set-order"
    · exact .inr rfl
    · exact .inl rfl
  exact ⟨.ref _, _, I.laid (t' := s.toks) (fun b u e => Heap.get?_push_of_some _ e) (Nat.le_refl _) (ext_ok R2), rfl, q _ (I.hok.fresh (Nat.le_refl _))⟩
/-- found.add(k) -/
def rAddT (P : Program) (w : World) : V → V → Hp → VK → Prop := fun x y H Q => ∃ (a : Addr) (k : Str) (l : List Str), x = .ref a ∧ y = .str k ∧ H a = some (SetT P w a l) ∧ l.length + 1 < scanBound ∧
  Q .non (upd H a (SetT P w a (if k ∈ l then l else k :: l)))
theorem add_tx {k : Str} {u : Tok} {Q : VK} (I : Inv X pins σ H s) (ha : H a = some (SetT X.prog X.w a l)) (hb : l.length + 1 < scanBound)
    (q : Q .non (upd H a (SetT X.prog X.w a (if k ∈ l then l else k :: l)))) : wpAny (model X.prog X.w) X.A (call (.builtin "set.add") [.ref a, .str k u]) (EP X pins σ Q) X.xe s := by
  have R := setT_at I ha
  obtain ⟨D, hD, r⟩ := id R
  refine wpAny_call_entry F.slot_set_add ⟨_, hD, rfl⟩ F.entry_set_add ?_ (F.args_set_add_2 _ _)
  unfold Builtin.«set.add» Builtin.Frozenset.oneOther Builtin.Frozenset.addrOf setAdd
  simp only [List.isEmpty_nil, bind_assoc]
  refine wpAny_bind (wpAny_pure ?_)
  refine wpAny_bind (wpAny_pure (wpAny_bind (wpAny_holding (wpAny_bind ((strKind X.prog X.w).pyHash (is_str k u) ?_)))))
  refine tx_hashed (s := { s with toks := s.toks + 1 }) R hb fun b h' sb R2 => ?_
  have he : ∃ o, h'.get? a = some o := ⟨_, R2.choose_spec.1⟩
  exact wpAny_pure ⟨_, rfl, .non, _, I.write (e := a) (t' := s.toks + 1) (by rw [ha]; trivial) (.inl rfl) (fun b o n z => (sb.2 b n).trans z) he (ext_ok R2), rfl, q⟩
def tAddT (P : Program) (w : World) (to te : TE) : TE := fun σ H Q => to σ H fun x H1 => (∃ a l, x = .ref a ∧ H1 a = some (SetT P w a l)) ∧ te σ H1 fun y H2 => rAddT P w x y H2 Q
theorem pe_addT {o e : Expr} {to te : TE} {apos cpos : Pos} (ho : PE X o to) (he : PE X e te) (m : M1 X o "add" apos e cpos) : PE X (.Call (.Attribute o "add" apos) [e] [] cpos) (tAddT X.prog X.w to te) := by
  refine ⟨fun pins s σ H Q I h => wpAny_Call_method m.base m.few m.line F.plainAttrs_set F.slot_set_add F.type_set_add ?_⟩
  refine thn (ho.run pins s σ H _ I h) fun u s1 ⟨x, H1, I1, rx, ⟨a, l, hx, hl⟩, q1⟩ => ?_
  subst hx
  obtain rfl : u = .ref a := rx
  obtain ⟨D, hD, _⟩ := setT_at I1 hl
  refine ⟨⟨_, hD, rfl⟩, fun b z => ?_, ?_⟩
  · cases z
    exact ⟨_, hD, rfl⟩
  rw [m.trees]
  refine Calls.callWith_builtin rfl (Calls.evalArgs_plain (Calls.spliced_cons (thn (he.run pins s1 σ H1 _ I1 q1) fun v s2 ⟨y, H2, I2, ry, q2⟩ => Calls.spliced_nil ?_)))
  obtain ⟨b, k, l2, eb, ey, h2, hb, q⟩ := q2
  cases eb
  subst ey
  obtain ⟨tk, rfl⟩ := ry
  exact add_tx I2 h2 hb q
theorem perm_len {α : Type} [DecidableEq α] : ∀ {l m : List α}, l.Nodup → (∀ x ∈ l, x ∈ m) → m.length = l.length → m.Perm l
  | [], m, _, _, h => by rw [List.length_eq_zero_iff.mp h]
  | x :: l, m, nd, h, hl => by
    have n2 := List.nodup_cons.mp nd
    have hx := h x List.mem_cons_self
    have p := List.perm_cons_erase hx
    have q : (m.erase x).Perm l := perm_len n2.2 (fun y hy => by
      have e := p.mem_iff.mp (h y (List.mem_cons_of_mem _ hy))
      rcases List.mem_cons.mp e with e | e
      · exact absurd (e ▸ hy) n2.1
      · exact e) (by have := p.length_eq; rw [hl] at this; simpa using this.symm)
    exact p.trans (q.cons x)
theorem strs_ofT {P : Program} {w : World} : ∀ {es : List (Int × Value)}, ElemsOf (strKind P w) es → ∃ xs : List Str, StrsAre (es.map (·.2)) xs ∧ ∀ k, k ∈ xs ↔ ∃ e ∈ es, (strKind P w).is k e.2 = true
  | [], _ => ⟨[], .nil, fun k => by simp⟩
  | e :: es, h => by
    obtain ⟨xs, h1, h2⟩ := strs_ofT (es := es) fun y hy => h y (List.mem_cons_of_mem _ hy)
    obtain ⟨⟨k, hk, _⟩, _⟩ := h e List.mem_cons_self
    obtain ⟨t, ht⟩ := Value.isStrOf_shape (x := k) (v := e.2) hk
    refine ⟨k :: xs, ?_, fun z => ?_⟩
    · rw [List.map_cons, ht]
      exact .cons k t h1
    · rw [List.mem_cons, h2 z]
      constructor
      · rintro (rfl | ⟨y, hy, q⟩)
        · exact ⟨e, List.mem_cons_self, hk⟩
        · exact ⟨y, List.mem_cons_of_mem _ hy, q⟩
      · rintro ⟨y, hy, q⟩
        rcases List.mem_cons.mp hy with rfl | hy
        · exact .inl ((strKind P w).inj y.2 z k q hk)
        · exact .inr ⟨y, hy, q⟩
theorem strs_perm {us vs : List Value} (p : us.Perm vs) : ∀ {xs : List Str}, StrsAre vs xs → ∃ ys : List Str, StrsAre us ys ∧ ys.Perm xs := by
  induction p with
  | nil => intro xs h; exact ⟨xs, h, .refl _⟩
  | cons v p ih =>
    intro xs h
    cases h with
    | cons x t r =>
      obtain ⟨ys, h1, h2⟩ := ih r
      exact ⟨x :: ys, .cons x t h1, h2.cons x⟩
  | swap v u l =>
    intro xs h
    cases h with
    | cons x t r => cases r with
      | cons y t2 r => exact ⟨y :: x :: _, .cons y t2 (.cons x t r), .swap ..⟩
  | trans p q ih1 ih2 =>
    intro xs h
    obtain ⟨ys, h1, h2⟩ := ih2 h
    obtain ⟨zs, h3, h4⟩ := ih1 h1
    exact ⟨zs, h3, h4.trans h2⟩
/-- sorted of a set of texts -/
def rSortT (P : Program) (w : World) : List V → Hp → VK → Prop := fun vs H Q => ∃ (a : Addr) (l : List Str), vs = [.ref a] ∧ H a = some (SetT P w a l) ∧ l.length < 4000 ∧
  ∀ (ys : List Str) (p : Addr), ys.Perm l → sortedS ys = true → H p = none → Q (.ref p) (upd H p (.lst (ys.map V.str)))
theorem cr_sortT (hc : X.calm = true) : CallR X (.builtin "sorted") (rSortT X.prog X.w) := by
  intro pins s σ H vs us Q I r ⟨a, l, ev, ha, hlen, q⟩
  subst ev
  rw [Vals.ref1 r]
  obtain ⟨⟨es, ep, t⟩, hD, F, W, nd⟩ := setT_at I ha
  have hz : es.size = l.length := F.sz
  have hb : es.size < scanBound := by unfold scanBound; omega
  obtain ⟨xs, hx1, hx2⟩ := strs_ofT (P := X.prog) (w := X.w) (es := es.toList) F.el
  have hxl : xs.length = l.length := by rw [← hz, ← StrsAre.len_eq hx1, List.length_map, Array.length_toList]
  have pxl : xs.Perm l := perm_len nd (fun x hx => (hx2 x).mpr ((F.mem x).mp hx)) hxl
  refine Calls.call_function_entry kind_sorted plain_sorted entry_sorted (args_sorted1 _) ?_
  unfold Builtin.«sorted»
  refine wpAny_bind (m := checkCount "sorted" 1 1 _) (wpAny_pure (wpAny_bind (collect_set (A := X.A.in1) (I.ok.hd hc) ⟨_, hD, rfl, rfl⟩ F.fit hb W.1 W.2 fun s1 out k1 hsz g1 o1 pm => ?_)))
  obtain ⟨ys, hS, py⟩ := strs_perm pm hx1
  have hol : out.length = l.length := by rw [pm.length_eq, List.length_map, Array.length_toList, hz]
  have h4 : (4000 : Nat) ≤ sizeLine := by decide
  have hob : (s1.heap.push (seqObj "list" out.toArray 0)).get? s1.heap.objs.size = some (seqObj "list" out.toArray 0) := Heap.get?_push_size _ rfl
  have es1 : s1 = { s with heap := s1.heap, gens := s1.gens, drawn := s1.drawn, toks := s1.toks } := by
    obtain ⟨h1, g1', d1, t1, os1⟩ := s1
    obtain ⟨h0, g0, d0, t0, os0⟩ := s
    cases o1
    rfl
  refine wpAny_bind (wpAny_newList ?_ (by omega))
  refine wpAny_bind (wpAny_holding (wpAny_call_entry slot_list_sort ⟨_, hob, rfl⟩ entry_list_sort
    (list_sort_treeKAny strKind_oneLt (s := { s1 with heap := s1.heap.push (seqObj "list" out.toArray 0) }) hob hS.keysOf (fun v₁ v₂ rest e => keyKind_strs (by rw [← e]; exact hS)) (by omega) fun st hp hs => ⟨_, rfl, ?_⟩) (args_list_sort _)))
  obtain ⟨zs, g2, g3, g4⟩ := sorted_out_str hS hp hs
  obtain ⟨e', he'⟩ := sortedHeap_at (vs := out) (out := (arrOf st).map (·.2)) hob
  have pz : zs.Perm l := g3.trans (py.trans pxl)
  have hlz : (zs.map V.str).length ≤ sizeLine := by rw [List.length_map, pz.length_eq]; omega
  have hn : H s1.heap.objs.size = none := I.hok.fresh hsz
  have kept : ∀ (b : Addr) (u : Obj), s.heap.get? b = some u → (sortedHeap (s1.heap.push (seqObj "list" out.toArray 0)) s1.heap.objs.size out ((arrOf st).map (·.2))).get? b = some u := fun b u e => by
    have e2 := k1 b u e
    have hlt : b < s1.heap.objs.size := Heap.lt_size e2
    rw [sortedHeap_old (Nat.ne_of_lt hlt) (by rw [size_push']; exact Nat.lt_succ_of_lt hlt)]
    exact Heap.get?_push_of_some _ e2
  have J : Inv X pins σ (upd H s1.heap.objs.size (.lst (zs.map V.str))) { s with heap := sortedHeap (s1.heap.push (seqObj "list" out.toArray 0)) s1.heap.objs.size out ((arrOf st).map (·.2)), gens := s1.gens, drawn := s1.drawn, toks := s1.toks } :=
    I.call (ch := []) (Un.laid kept hsz hn) (I.hok.laid kept hsz ⟨hlz, ((arrOf st).map (·.2)).toList, e', vals_of_strs g2, by rw [Array.toArray_toList]; exact he'⟩) (by rw [g1]; exact I.bare) (fun _ z => nomatch z)
  rw [es1]
  exact wpAny_pure ⟨_, rfl, .ref s1.heap.objs.size, _, J, rfl, q zs _ pz g4 hn⟩
theorem call_extT {P : Program} {w : World} {A : Around} {E : Value → Shared → Prop} {s : Shared} {l b : Addr} {its its2 : Array Value} {n n2 : Nat} {o : Obj} {Q : Value → Shared → Prop}
    (e1 : s.heap.get? l = some { cls := .type "list", data := .seq its n }) (ho : s.heap.get? b = some o) (hc : o.cls = .type "tuple") (hd : o.data = .seq its2 n2) (hs : its.size + its2.size ≤ sizeLine)
    (h : Q .none { s with heap := s.heap.update l (Obj.mapSeq (· ++ its2)) }) : wpAny (model P w) A (call (.builtin "list.extend") [.ref l, .ref b]) Q E s := by
  refine wpAny_call_entry F.slot_list_extend ⟨_, e1, rfl⟩ F.entry_list_extend ?_ (F.args_list_extend_2 _ _)
  show wpAny _ A.in1 (Builtin.List.listExtendWith (.ref l) (.ref b) .none) _ _ s
  unfold Builtin.List.listExtendWith Builtin.List.listItems
  refine wpAny_bind (wpAny_typeOf ⟨o, ho, hc⟩ ?_)
  rw [if_pos (show (Builtin.List.listSameRef (.ref l) (.ref b) || Value.type "tuple" == Value.type "list" || Value.type "tuple" == Value.type "tuple") = true by simp)]
  refine wpAny_bind (wpAny_bind (wpAny_seqItems ho hd (wpAny_pure (wpAny_bind (wpAny_bind (wpAny_seqItems e1 rfl (wpAny_pure ?_)))))))
  have hf : ¬ ((!its.isEmpty && Builtin.List.listTooLong (its.size + its2.size)) = true) := by
    rw [notLongL hs, Bool.and_false]
    exact Bool.false_ne_true
  rw [if_neg hf]
  show wpAny _ A.in1 (updateSeq l (· ++ its2) >>= fun _ => ret Value.none) _ _ s
  exact wpAny_bind (wpAny_updateSeq e1 rfl (wpAny_pure ⟨_, rfl, h⟩) (by omega) (by rw [Array.size_append]; omega))
def rExtendT (K : PySem.W.Frag) : V → List V → Hp → VK → Prop := fun x vs H Q => ∃ (l b : Addr) (xs zs : List V), x = .ref l ∧ vs = [.ref b] ∧ H l = some (.lst xs) ∧ SqT K H b zs ∧ xs.length + zs.length ≤ sizeLine ∧ Q .non (upd H l (.lst (xs ++ zs)))
theorem mt_extendT : MtR X "list.extend" (rExtendT X.K) := by
  intro pins s σ H x vs v us Q I rx rv ⟨l, b, xs, zs, ex, ev, hl, hb, hz, q⟩
  subst ex ev
  cases rx
  obtain ⟨u, rfl, ru⟩ := vals1 rv
  cases ru
  obtain ⟨_, its, n, r1, n1, e1⟩ := I.lstM hl
  obtain ⟨its2, r2, ⟨o, e2, hc, n2, hd⟩, _⟩ := I.tuple hb
  have l2 := r2.length
  refine call_extT e1 e2 hc hd (by rw [List.size_toArray, List.size_toArray]; omega) ⟨.non, _, I.lset (its' := its ++ its2) hl e1 (by simp) (r1.append r2) ?_, rfl, q⟩
  rw [List.length_append]
  omega
end
end Sk
set_option Elab.async false
set_option linter.all false
set_option maxRecDepth 100000
set_option maxHeartbeats 1000000
namespace Sk
open PySem L2 Evl Rd Tk
def spc (g : Nat) (l : List Nat) : List Nat := l.flatMap fun c => if c = 32 then sp g else [c]
theorem spc_app (g : Nat) (a b : List Nat) : spc g (a ++ b) = spc g a ++ spc g b := List.flatMap_append
theorem spc_id {g : Nat} : ∀ {l : List Nat}, (∀ c ∈ l, c ≠ 32) → spc g l = l
  | [], _ => rfl
  | c :: l, h => by
    show (if c = 32 then sp g else [c]) ++ spc g l = _
    rw [if_neg (h c List.mem_cons_self), spc_id fun d hd => h d (List.mem_cons_of_mem _ hd)]
    rfl
theorem spc_one (g : Nat) : spc g (sp 1) = sp g := by
  show (if (32 : Nat) = 32 then sp g else [32]) ++ [] = _
  rw [if_pos rfl, List.append_nil]
theorem spc_par (g : Nat) (b : Bool) (l : List Nat) : spc g (parT b l) = parT b (spc g l) := by
  cases b
  · rfl
  · show spc g ([40] ++ (l ++ [41])) = [40] ++ (spc g l ++ [41])
    rw [spc_app, spc_app]
    rfl
theorem repl_sp {z : List Nat} : ∀ l : List Nat, PySem.StrLaws.replL [32] z l = l.flatMap fun c => if c = 32 then z else [c]
  | [] => PySem.StrLaws.replL_nil
  | c :: l => by
    by_cases h : c = 32
    · subst h
      rw [PySem.StrLaws.replL_hit (by decide) rfl, List.flatMap_cons, if_pos rfl, ← repl_sp l]
      rfl
    · rw [PySem.StrLaws.replL_miss (by intro q; exact h (by simpa using q))]
      rw [List.flatMap_cons, if_neg h, ← repl_sp l]
      rfl
theorem repl_S {g : Nat} (l : List Nat) : PySem.Txt.replace (mkS l) (mkS [32]) (mkS (sp g)) = mkS (spc g l) := by
  have h := PySem.StrLaws.replace_list (x := mkS l) (y := mkS [32]) (z := mkS (sp g)) (by decide)
  have h2 : (PySem.Txt.replace (mkS l) (mkS [32]) (mkS (sp g))).cps.toList = spc g l := h.trans (repl_sp l)
  generalize PySem.Txt.replace (mkS l) (mkS [32]) (mkS (sp g)) = r at h2 ⊢
  obtain ⟨⟨r⟩⟩ := r
  have h3 : r = spc g l := h2
  rw [h3]
  rfl
theorem name_no {s : List Nat} (h : isName s = true) : ∀ c ∈ s, c ≠ 32 := by
  unfold isName at h
  simp only [Bool.and_eq_true, List.all_eq_true, decide_eq_true_eq] at h
  intro c hc q
  have := h.2.2 c hc
  rw [q] at this
  exact absurd this (by decide)
theorem ftx_spc {e : Least} {g : Nat} : ∀ t : Fm, fine dgT t → spc g (ftx dgT e 1 t) = ftx dgT e g t
  | .int n, h => spc_id fun c hc q => by
    have := (isInt_out h.1).2.2 c hc
    rw [q] at this
    exact absurd this (by decide)
  | .name s, h => spc_id (name_no h)
  | .un k a, h => by
    show spc g (UnK.sg k ++ parT _ _) = UnK.sg k ++ parT _ _
    rw [spc_app, spc_par, ftx_spc a h, spc_id (by cases k <;> decide)]
  | .op k a b, h => by
    show spc g (parT _ _ ++ sp 1 ++ OpK.sg k ++ sp 1 ++ parT _ _) = parT _ _ ++ sp g ++ OpK.sg k ++ sp g ++ parT _ _
    rw [spc_app, spc_app, spc_app, spc_app, spc_par, spc_par, spc_one, ftx_spc a h.1, ftx_spc b h.2, spc_id (l := OpK.sg k) (by cases k <;> decide)]
  | .fna f a, h => by
    show spc g (FnA.sg f ++ [40] ++ ftx dgT e 1 a ++ [41]) = FnA.sg f ++ [40] ++ ftx dgT e g a ++ [41]
    rw [spc_app, spc_app, spc_app, ftx_spc a h, spc_id (l := FnA.sg f) (by cases f <;> decide)]
    rfl
  | .fnb f a b, h => by
    show spc g (FnB.sg f ++ [40] ++ ftx dgT e 1 a ++ [44] ++ sp 1 ++ ftx dgT e 1 b ++ [41]) = FnB.sg f ++ [40] ++ ftx dgT e g a ++ [44] ++ sp g ++ ftx dgT e g b ++ [41]
    rw [spc_app, spc_app, spc_app, spc_app, spc_app, spc_app, spc_one, ftx_spc a h.1, ftx_spc b h.2, spc_id (l := FnB.sg f) (by cases f <;> decide)]
    rfl
structure Nms (ls : List (List Nat)) : Prop where
  nm : ∀ s ∈ ls, isName s = true ∧ s.length ≤ 4
theorem bn_fine {ls : List (List Nat)} (N : Nms ls) : ∀ t : Fm, t.bn ls → fine dgT t
  | .int n, h => dgT_int (Nat.lt_of_le_of_lt h (by decide))
  | .name s, h => (N.nm s h).1
  | .un k a, h => bn_fine N a h
  | .op k a b, h => ⟨bn_fine N a h.1, bn_fine N b h.2⟩
  | .fna f a, h => bn_fine N a h
  | .fnb f a b, h => ⟨bn_fine N a h.1, bn_fine N b h.2⟩
theorem dg31 {n : Nat} (h : n ≤ 31) : (dgT n).length ≤ 4 := by
  have : ∀ n < 32, (dgT n).length ≤ 4 := by decide +kernel
  exact this n (by omega)
theorem two_max {a b x y : Nat} (h1 : x + 12 ≤ 16 * 2 ^ a) (h2 : y + 12 ≤ 16 * 2 ^ b) : x + y + 24 ≤ 16 * 2 ^ (max a b + 1) := by
  have p1 : 2 ^ a ≤ 2 ^ max a b := Nat.pow_le_pow_right (by decide) (Nat.le_max_left _ _)
  have p2 : 2 ^ b ≤ 2 ^ max a b := Nat.pow_le_pow_right (by decide) (Nat.le_max_right _ _)
  rw [Nat.pow_succ]
  omega
theorem one_up {a x c : Nat} (h1 : x + 12 ≤ 16 * 2 ^ a) (hc : c ≤ 16) : x + 12 + c ≤ 16 * 2 ^ (a + 1) := by
  have p1 : 1 ≤ 2 ^ a := Nat.one_le_two_pow
  rw [Nat.pow_succ]
  omega
theorem bn_len {ls : List (List Nat)} (N : Nms ls) {e : Least} {g : Nat} (hg : g ≤ 3) : ∀ t : Fm, t.bn ls → (ftx dgT e g t).length + 12 ≤ 16 * 2 ^ t.dp
  | .int n, h => by have := dg31 h; show (dgT n).length + 12 ≤ 16; omega
  | .name s, h => by have := (N.nm s h).2; show s.length + 12 ≤ 16; omega
  | .un k a, h => by
    have h1 := bn_len N (e := e) hg a h
    have h2 := (par_len (decide (rank a < e.u k)) (ftx dgT e g a)).2
    have h3 : (UnK.sg k).length ≤ 2 := by cases k <;> decide
    have h4 := one_up h1 (c := 4) (by omega)
    show (UnK.sg k ++ parT _ _).length + 12 ≤ 16 * 2 ^ (a.dp + 1)
    rw [List.length_append]
    omega
  | .op k a b, h => by
    have h1 := bn_len N (e := e) hg a h.1
    have h2 := bn_len N (e := e) hg b h.2
    have h3 := two_max h1 h2
    have h4 := (par_len (decide (rank a < e.l (opR k))) (ftx dgT e g a)).2
    have h5 := (par_len (decide (rank b < e.r (opR k))) (ftx dgT e g b)).2
    have h6 := (sg_len k).2
    show (parT _ _ ++ sp g ++ OpK.sg k ++ sp g ++ parT _ _).length + 12 ≤ 16 * 2 ^ (max a.dp b.dp + 1)
    have h7 : (sp g).length = g := List.length_replicate
    rw [List.length_append, List.length_append, List.length_append, List.length_append, h7]
    omega
  | .fna f a, h => by
    have h1 := bn_len N (e := e) hg a h
    have h3 : (FnA.sg f).length ≤ 5 := by cases f <;> decide
    have h4 := one_up h1 (c := 7) (by omega)
    show (FnA.sg f ++ [40] ++ ftx dgT e g a ++ [41]).length + 12 ≤ 16 * 2 ^ (a.dp + 1)
    rw [List.length_append, List.length_append, List.length_append]
    show (FnA.sg f).length + 1 + _ + 1 + 12 ≤ _
    omega
  | .fnb f a b, h => by
    have h1 := bn_len N (e := e) hg a h.1
    have h2 := bn_len N (e := e) hg b h.2
    have h3 := two_max h1 h2
    have h4 : (FnB.sg f).length ≤ 3 := by cases f <;> decide
    have h7 : (sp g).length = g := List.length_replicate
    show (FnB.sg f ++ [40] ++ ftx dgT e g a ++ [44] ++ sp g ++ ftx dgT e g b ++ [41]).length + 12 ≤ 16 * 2 ^ (max a.dp b.dp + 1)
    rw [List.length_append, List.length_append, List.length_append, List.length_append, List.length_append, List.length_append, h7]
    show (FnB.sg f).length + 1 + _ + 1 + g + _ + 1 + 12 ≤ _
    omega
theorem lv_dp26 {e : Least} : ∀ t : Fm, lv e t ≤ 2 * t.dp
  | .int _ => Nat.zero_le _
  | .name _ => Nat.zero_le _
  | .un k a => by
    have := lv_dp26 (e := e) a
    show 1 + pl _ (lv e a) ≤ 2 * (a.dp + 1)
    unfold pl
    split <;> omega
  | .op k a b => by
    have := lv_dp26 (e := e) a
    have := lv_dp26 (e := e) b
    show max (pl _ (lv e a)) (pl _ (lv e b)) ≤ 2 * (max a.dp b.dp + 1)
    unfold pl
    split <;> split <;> omega
  | .fna f a => by have := lv_dp26 (e := e) a; show 1 + lv e a ≤ 2 * (a.dp + 1); omega
  | .fnb f a b => by have := lv_dp26 (e := e) a; have := lv_dp26 (e := e) b; show 1 + max (lv e a) (lv e b) ≤ 2 * (max a.dp b.dp + 1); omega
theorem cd_dp26 : ∀ t : Fm, t.cd ≤ 2 + 3 * t.dp
  | .int _ => Nat.le_refl _
  | .name _ => Nat.le_refl _
  | .un _ a => by have := cd_dp26 a; show a.cd + 3 ≤ 2 + 3 * (a.dp + 1); omega
  | .op _ a b => by have := cd_dp26 a; have := cd_dp26 b; show max a.cd (b.cd + 2) ≤ 2 + 3 * (max a.dp b.dp + 1); omega
  | .fna _ a => by have := cd_dp26 a; show a.cd + 2 ≤ 2 + 3 * (a.dp + 1); omega
  | .fnb _ a b => by have := cd_dp26 a; have := cd_dp26 b; show max a.cd b.cd + 2 ≤ 2 + 3 * (max a.dp b.dp + 1); omega
theorem dd_dp : ∀ t : Fm, t.dd ≤ 1 + 2 * t.dp
  | .int _ => Nat.le_refl _
  | .name _ => Nat.le_refl _
  | .un _ a => by have := dd_dp a; show a.dd + 1 ≤ 1 + 2 * (a.dp + 1); omega
  | .op _ a b => by have := dd_dp a; have := dd_dp b; show max a.dd b.dd + 1 ≤ 1 + 2 * (max a.dp b.dp + 1); omega
  | .fna _ a => by have := dd_dp a; show a.dd + 2 ≤ 1 + 2 * (a.dp + 1); omega
  | .fnb _ a b => by have := dd_dp a; have := dd_dp b; show max a.dd b.dd + 2 ≤ 1 + 2 * (max a.dp b.dp + 1); omega
theorem rf_sp {e : Least} {g i j : Nat} {t : Fm} (he : e.Ok) (hf : fine dgT t) (hl : lv e t ≤ 30) (hz : (sp i ++ ftx dgT e g t ++ sp j).length ≤ 1000) : RF (sp i ++ ftx dgT e g t ++ sp j) (some t) := by
  refine ⟨some (pt dgT e t), .inr ⟨hz, tx_toks hf⟩, ?_⟩
  show _ = parseAll (pt dgT e t)
  unfold parseAll
  rw [pt_read he hf hl]
theorem rf_par {e : Least} {g : Nat} {t : Fm} (he : e.Ok) (hf : fine dgT t) (hl : lv e t ≤ 29) (hz : (parT true (ftx dgT e g t)).length ≤ 1000) : RF (parT true (ftx dgT e g t)) (some t) := by
  have hx := ((ext_par (b := true) (tx_ext (e := e) (g := g) t hf)) [] [] 0 (pre_nil 0) clrS_nil).1
  have ht := pre_end hx 0
  rw [show ([] ++ sp 0 ++ parT true (ftx dgT e g t)) ++ sp 0 = parT true (ftx dgT e g t) by simp] at ht
  refine ⟨some (par true (pt dgT e t)), .inr ⟨hz, ht⟩, ?_⟩
  show _ = parseAll (par true (pt dgT e t))
  have h1 := ((pt_txt he t hf 29 hl).par 4).sum (r := []) rfl rfl
  unfold parseAll
  rw [List.append_nil] at h1
  rw [show par true (pt dgT e t) = [40] :: (pt dgT e t ++ [[41]]) from rfl, h1]
end Sk
set_option Elab.async false
set_option linter.all false
set_option maxRecDepth 100000
set_option maxHeartbeats 1000000
namespace Sk
open PySem L2 Evl
end Sk
set_option Elab.async false
set_option linter.all false
set_option maxRecDepth 100000
set_option maxHeartbeats 1000000
namespace Sk
open PySem L2 Evl
inductive Stk (K : PySem.W.Frag) (H : Hp) : List Addr → List (List (Int × T)) → Prop
  | nil : Stk K H [] []
  | cons {q : Addr} {qs : List Addr} {r : List (Int × T)} {st : List (List (Int × T))} {ys : List V} (h : H q = some (.lst ys)) (hi : ItemsR (TermI K) r ys H) (hq : q ∉ qs) (ht : Stk K H qs st) : Stk K H (q :: qs) (r :: st)
theorem Stk.len {K : PySem.W.Frag} {H : Hp} {qs : List Addr} {st : List (List (Int × T))} (h : Stk K H qs st) : qs.length = st.length := by
  induction h with
  | nil => rfl
  | cons _ _ _ _ ih => rw [List.length_cons, List.length_cons, ih]
theorem Stk.get {K : PySem.W.Frag} {H : Hp} {qs : List Addr} {st : List (List (Int × T))} (h : Stk K H qs st) : ∀ (k : Nat) (q : Addr), qs[k]? = some q → ∃ r ys, st[k]? = some r ∧ H q = some (.lst ys) ∧ ItemsR (TermI K) r ys H := by
  induction h with
  | nil => intro k q h; cases h
  | @cons q0 qs r st ys h hi hq ht ih =>
    intro k q hk
    cases k with
    | zero => cases hk; exact ⟨r, ys, rfl, h, hi⟩
    | succ k => exact ih k q hk
theorem q_asgW {σ : L2.St} {H : Hp} {D : Ends} {te : TE} {tz : TS} {i : Nat} (h : te σ H fun v H1 => tz D (σ.set i (some v)) H1) : tSeq (tAsg te (gName i)) tz D σ H := h
theorem s_dropW {σ : L2.St} {H : Hp} {D : Ends} {te : TE} (h : te σ H fun _ H1 => D.nx σ H1) : tDrop te D σ H := h
theorem popW {K : PySem.W.Frag} {σ : L2.St} {H : Hp} {to : TE} {Q : VK} {l : Addr} {xs : List V} {y : V} (hv : Ev to σ H (.ref l)) (hl : H l = some (.lst (xs ++ [y]))) (k : ∀ H1, Ex H H1 → Q y (upd H1 l (.lst xs))) : tBM K "list" rPop to tNil σ H Q :=
  hv H (Ex.refl _) _ fun H1 e1 => ⟨Or.inl ⟨rfl, _, sq_of (e1 l _ hl)⟩, l, _, y, rfl, rfl, e1 l _ hl, by simp, by rw [List.dropLast_concat]; exact k H1 e1⟩
end Sk
set_option Elab.async false
set_option linter.all false
set_option maxRecDepth 100000
set_option maxHeartbeats 1000000
namespace Sk
open PySem L2 Evl Rd
def Fm.kids : Fm → List Fm
  | .op _ a b => [a, b]
  | .un _ a => [a]
  | .fna _ a => [a]
  | .fnb _ a b => [a, b]
  | _ => []
/-- its names, in order -/
def Fm.nm : Fm → List Str
  | .int _ => []
  | .name s => [mkS s]
  | .op _ a b => a.nm ++ b.nm
  | .un _ a => a.nm
  | .fna _ a => a.nm
  | .fnb _ a b => a.nm ++ b.nm
def Fm.sz : Fm → Nat
  | .int _ => 1
  | .name _ => 1
  | .op _ a b => a.sz + b.sz + 1
  | .un _ a => a.sz + 1
  | .fna _ a => a.sz + 1
  | .fnb _ a b => a.sz + b.sz + 1
theorem sz_pos (t : Fm) : 1 ≤ t.sz := by cases t <;> (simp only [Fm.sz]; omega)
theorem sz_kids (t : Fm) : (t.kids.map Fm.sz).sum + 1 = t.sz := by cases t <;> simp [Fm.kids, Fm.sz]
theorem sz_dp : ∀ t : Fm, t.sz + 1 ≤ 2 ^ (t.dp + 1)
  | .int _ => Nat.le_refl 2
  | .name _ => Nat.le_refl 2
  | .un _ a => by have := sz_dp a; show a.sz + 1 + 1 ≤ 2 ^ (a.dp + 1 + 1); rw [Nat.pow_succ]; have := sz_pos a; omega
  | .fna _ a => by have := sz_dp a; show a.sz + 1 + 1 ≤ 2 ^ (a.dp + 1 + 1); rw [Nat.pow_succ]; have := sz_pos a; omega
  | .op _ a b => by
    have h1 := sz_dp a
    have h2 := sz_dp b
    have p1 : 2 ^ (a.dp + 1) ≤ 2 ^ (max a.dp b.dp + 1) := Nat.pow_le_pow_right (by decide) (by omega)
    have p2 : 2 ^ (b.dp + 1) ≤ 2 ^ (max a.dp b.dp + 1) := Nat.pow_le_pow_right (by decide) (by omega)
    show a.sz + b.sz + 1 + 1 ≤ 2 ^ (max a.dp b.dp + 1 + 1)
    rw [Nat.pow_succ]
    omega
  | .fnb _ a b => by
    have h1 := sz_dp a
    have h2 := sz_dp b
    have p1 : 2 ^ (a.dp + 1) ≤ 2 ^ (max a.dp b.dp + 1) := Nat.pow_le_pow_right (by decide) (by omega)
    have p2 : 2 ^ (b.dp + 1) ≤ 2 ^ (max a.dp b.dp + 1) := Nat.pow_le_pow_right (by decide) (by omega)
    show a.sz + b.sz + 1 + 1 ≤ 2 ^ (max a.dp b.dp + 1 + 1)
    rw [Nat.pow_succ]
    omega
def FmI (K : PySem.W.Frag) : Fm → VP := fun t v H => FmV K H v t
theorem fmI {K : PySem.W.Frag} (t : Fm) : MonoT (FmI K t) := fmT
theorem opw_no (k : OpK) : k.w ≠ "call" ∧ ¬ (k.w = "int" ∨ k.w = "name") := by cases k <;> decide +kernel
theorem unw_no (k : UnK) : k.w ≠ "call" ∧ ¬ (k.w = "int" ∨ k.w = "name") := by cases k <;> decide +kernel
section
variable {K : PySem.W.Frag} {H H' : Hp} {σ : L2.St} {te tf : TE} {E : XK} {Q : VK}
theorem er_ifF {t : TT} {b : Bool} {R : VP} (h : EvT t σ H b) (h1 : b = true → ∀ H2, Ex H H2 → ER te σ H2 R) (h2 : b = false → ∀ H2, Ex H H2 → ER tf σ H2 R) : ER (tIf t te tf) σ H R := fun H1 e Q q => h H1 e _ fun H2 e2 => by
  cases b with
  | true => exact h1 rfl H2 (e.trans e2) H2 (Ex.refl _) Q fun v H3 e3 r => q v H3 (e2.trans e3) r
  | false => exact h2 rfl H2 (e.trans e2) H2 (Ex.refl _) Q fun v H3 e3 r => q v H3 (e2.trans e3) r
def KidR (K : PySem.W.Frag) (ts : List Fm) : VP := fun v H => ∃ q ys, v = .ref q ∧ SqT K H q ys ∧ ItemsR (FmI K) ts ys H
theorem kidR (ts : List Fm) : Mono (KidR K ts) := fun v H1 H2 e ⟨q, ys, h1, h2, h3⟩ => ⟨q, ys, h1, ex_t e h2, h3.ex (fun a => (fmI a).mono) e⟩
def pTreesIn (K : PySem.W.Frag) : V → Hp → VP → Prop := fun x H R => ∃ t : Fm, FmV K H x t ∧ R = KidR K t.kids
def sp_trees_in (K : PySem.W.Frag) : Sp := spF1 (pTreesIn K)
def t_trees_in (K : PySem.W.Frag) : TS := (tSeq (tIfS (tTest (tOp (rIn K false) (tOp (rIxT K) (tVar 0) (tC (.int 0))) (tTup (tCons (tC (.str "int")) (tCons (tC (.str "name")) tNil))))) (tRet (tTup tNil)) tNext)
    (tRet (tIf (tTest (tOp rEq (tOp (rIxT K) (tVar 0) (tC (.int 0))) (tC (.str "call")))) (tOp (rIxT K) (tVar 0) (tC (.int 2))) (tSl (rSlA K) (tVar 0) (tPart (tC (.int 1))) tNoPart))))
theorem ev_inIN {z : Str} (h : Ev te σ H (.str z)) : Ev (tOp (rIn K false) te (tTup (tCons (tC (.str "int")) (tCons (tC (.str "name")) tNil)))) σ H (.bl (decide (z = "int" ∨ z = "name"))) := by
  refine fun H1 e1 Q q => h H1 e1 _ fun H2 e2 => ?_
  refine eu_tup (vs := [.str "int", .str "name"]) (ea_cons ev_c (ea_cons ev_c ea_nil)) (by show 2 ≤ 100000; omega) H2 (Ex.refl _) _ fun p H3 hp e3 h3 => ?_
  refine ⟨p, _, rfl, .inr (st_of h3), rfl, rfl, ?_⟩
  have : inV (.str z) [.str "int", .str "name"] = decide (z = "int" ∨ z = "name") := by
    show (decide (("int" : Str) = z) || (decide (("name" : Str) = z) || false)) = _
    rw [Bool.eq_iff_iff, Bool.or_false, Bool.or_eq_true, decide_eq_true_eq, decide_eq_true_eq, decide_eq_true_eq]
    exact ⟨fun h => h.imp Eq.symm Eq.symm, fun h => h.imp Eq.symm Eq.symm⟩
  show Q (.bl (inV (.str z) [.str "int", .str "name"])) H3
  rw [this]
  exact q H3 (e2.trans e3)
theorem fm_rest {t : Fm} {v : V} (h : FmV K H v t) (hc : t.kw ≠ "call") (hi : ¬ (t.kw = "int" ∨ t.kw = "name")) : ∃ a zs, v = .ref a ∧ SqT K H a zs ∧ ItemsR (FmI K) t.kids (zs.drop 1) H := by
  cases t with
  | int n => exact absurd (.inl rfl) hi
  | name s => exact absurd (.inr rfl) hi
  | fna f a => exact absurd rfl hc
  | fnb f a b => exact absurd rfl hc
  | un k a =>
    obtain ⟨p, x, rfl, hs, hx⟩ := fm_un h
    exact ⟨p, _, rfl, hs, ItemsR.cons hx .nil⟩
  | op k a b =>
    obtain ⟨p, x, y, rfl, hs, hx, hy⟩ := fm_op h
    exact ⟨p, _, rfl, hs, ItemsR.cons hx (ItemsR.cons hy .nil)⟩
theorem fm_call {t : Fm} {v : V} (h : FmV K H v t) (hc : t.kw = "call") : ∃ a b zs ys, v = .ref a ∧ SqT K H a zs ∧ atI zs 2 = some (.ref b) ∧ SqT K H b ys ∧ ItemsR (FmI K) t.kids ys H := by
  cases t with
  | int n => exact absurd (show ("int" : Str) = "call" from hc) (by decide +kernel)
  | name s => exact absurd (show ("name" : Str) = "call" from hc) (by decide +kernel)
  | fna f a =>
    obtain ⟨p, b, x, rfl, hs, hb, hx⟩ := fm_fna h
    exact ⟨p, b, _, _, rfl, hs, rfl, hb, ItemsR.cons hx .nil⟩
  | fnb f a c =>
    obtain ⟨p, b, x, y, rfl, hs, hb, hx, hy⟩ := fm_fnb h
    exact ⟨p, b, _, _, rfl, hs, rfl, hb, ItemsR.cons hx (ItemsR.cons hy .nil)⟩
  | un k a => exact absurd hc (unw_no k).1
  | op k a b => exact absurd hc (opw_no k).1
/-- a tree's kids, cut off its front -/
theorem er_kids {t : Fm} {i : Nat} {v : V} (hv : FmV K H v t) (hi : σ[i]? = some (some v)) (hc : t.kw ≠ "call") (hn : ¬ (t.kw = "int" ∨ t.kw = "name")) : ER (tSl (rSlA K) (tVar i) (tPart (tC (.int 1))) tNoPart) σ H (KidR K t.kids) := by
  obtain ⟨a, zs, rfl, hs, hit⟩ := fm_rest hv hc hn
  exact (er_fromT (n := 1) (ev_var hi) hs ev_c).imp fun v H1 e1 ⟨q, h1, h2⟩ => ⟨q, _, h1, h2, hit.ex (fun a => (fmI a).mono) e1⟩
theorem ev_kw {t : Fm} {i : Nat} {v : V} (hv : FmV K H v t) (hi : σ[i]? = some (some v)) : Ev (tOp (rIxT K) (tVar i) (tC (.int 0))) σ H (.str t.kw) := by
  obtain ⟨a, xs, rfl, hs⟩ := fm_kw hv
  exact ev_atT (ev_var hi) ev_c hs (atI_n (i := 0) rfl)
theorem er_callK {t : Fm} {i : Nat} {v : V} (hv : FmV K H v t) (hi : σ[i]? = some (some v)) (hc : t.kw = "call") : ER (tOp (rIxT K) (tVar i) (tC (.int 2))) σ H (KidR K t.kids) := by
  obtain ⟨a, b, zs, ys, rfl, hs, h2, hb, hit⟩ := fm_call hv hc
  exact er_ev (ev_atT (ev_var hi) ev_c hs h2) fun H1 e1 => ⟨b, ys, rfl, ex_t e1 hb, hit.ex (fun a => (fmI a).mono) e1⟩
theorem kids_nil {t : Fm} (h : t.kw = "int" ∨ t.kw = "name") : t.kids = [] := by
  cases t with
  | int n => rfl
  | name s => rfl
  | fna f a => exact absurd h (by show ¬ (("call" : Str) = "int" ∨ ("call" : Str) = "name"); decide +kernel)
  | fnb f a c => exact absurd h (by show ¬ (("call" : Str) = "int" ∨ ("call" : Str) = "name"); decide +kernel)
  | un k a => exact absurd h (unw_no k).2
  | op k a b => exact absurd h (opw_no k).2
theorem pure_trees_in {vs : List V} (h : sp_trees_in K vs H Q E) : t_trees_in K { nx := fun _ H' => Q .non H', rt := Q } (start ["tree"] vs) H := by
  obtain ⟨x, R, rfl, ⟨t, hx, rfl⟩, k⟩ := h
  refine q_when (et_test (ev_inIN (ev_kw hx rfl))) (fun hb H1 e1 => ?_) fun hb H1 e1 => ?_
  · have hk := kids_nil (of_decide_eq_true hb)
    refine s_retR (R := KidR K t.kids) ?_ fun v H2 e2 hv => k v H2 (e1.trans e2) hv
    rw [hk]
    exact fun H2 e2 Q q => eu_tup ea_nil (by decide) H2 (Ex.refl _) _ fun p H3 hp e3 h3 => q _ _ e3 ⟨p, [], rfl, st_of h3, .nil⟩
  · have hn := of_decide_eq_false hb
    refine s_retR (R := KidR K t.kids) ?_ fun v H2 e2 hv => k v H2 (e1.trans e2) hv
    have hx1 := hx.ex e1
    by_cases hc : t.kw = "call"
    · exact er_ifF (b := true) (by
        have := et_test (ev_eq (ev_kw (σ := start ["tree"] [x]) (i := 0) hx1 rfl) (ev_c (v := .str "call")) rfl)
        rwa [decide_eq_true (show V.str t.kw = V.str "call" by rw [hc])] at this) (fun _ H2 e2 => er_callK (hx1.ex e2) rfl hc) fun z => by cases z
    · exact er_ifF (b := false) (by
        have := et_test (ev_eq (ev_kw (σ := start ["tree"] [x]) (i := 0) hx1 rfl) (ev_c (v := .str "call")) rfl)
        rwa [decide_eq_false (fun z => hc (V.str.inj z))] at this) (fun z => by cases z) fun _ H2 e2 => er_kids (hx1.ex e2) rfl hc hn
end
end Sk
set_option Elab.async false
set_option linter.all false
set_option maxRecDepth 100000
set_option maxHeartbeats 1000000
namespace Sk
open PySem L2 Evl Rd PyProof.Rows
/-- a sorted list of a tree's names, each once -/
def NmR (t : Fm) : VP := fun v H => ∃ (p : Addr) (ys : List Str), v = .ref p ∧ H p = some (.lst (ys.map V.str)) ∧ sortedS ys = true ∧ ys.Nodup ∧ ∀ k, k ∈ ys ↔ k ∈ t.nm
theorem nmR (t : Fm) : Mono (NmR t) := fun v H1 H2 e ⟨p, ys, h1, h2, h3⟩ => ⟨p, ys, h1, e p _ h2, h3⟩
def pNamesOf (K : PySem.W.Frag) : V → Hp → VP → Prop := fun x H R => ∃ t : Fm, FmV K H x t ∧ t.sz ≤ 3000 ∧ R = NmR t
def sp_names_of (K : PySem.W.Frag) : Sp := spF1 (pNamesOf K)
def t_names_of (K : PySem.W.Frag) (P : Program) (w : World) : TS := (tSeq (tAsg (tCB (rSetT0 P w) tNil) (gName 1))
    (tSeq (tAsg (tLst (tCons (tVar 0) tNil)) (gName 2))
    (tSeq (tWhile (tTruK K (tVar 2)) (tSeq (tAsg (tBM K "list" rPop (tVar 2) tNil) (gName 3))
    (tSeq (tIfS (tTest (tOp rEq (tOp (rIxT K) (tVar 3) (tC (.int 0))) (tC (.str "name")))) (tDrop (tAddT P w (tVar 1) (tOp (rIxT K) (tVar 3) (tC (.int 1))))) tNext)
    (tDrop (tBM K "list" (rExtendT K) (tVar 2) (tCons (tCall (sp_trees_in K) [] E0 (tCons (tVar 3) tNil)) tNil))))))
    (tRet (tCB (rSortT P w) (tCons (tVar 1) tNil))))))
section
variable {K : PySem.W.Frag} {H H' : Hp} {σ : L2.St} {te tf : TE} {E : XK} {Q : VK} {P : Program} {w : World}
theorem TEx.putS {a : Addr} {l : List Str} {o : HO} (h : H a = some (SetT P w a l)) (ho : True) : TEx H (upd H a o) := fun b u e c => by
  by_cases q : b = a
  · rw [q, h] at e
    cases e
    exact c.elim
  · rw [upd_ne q]; exact e
theorem items_last {α : Type} {R : α → VP} {l : List α} {a : α} {ys : List V} (h : ItemsR R (l ++ [a]) ys H) : ∃ zs y, ys = zs ++ [y] ∧ ItemsR R l zs H ∧ R a y H := by
  rcases List.eq_nil_or_concat ys with rfl | ⟨zs, y, rfl⟩
  · have := h.1
    simp at this
  · have hl : zs.length = l.length := by have := h.1; simpa using this
    refine ⟨zs, y, List.concat_eq_append, ⟨hl, fun i z b h1 h2 => h.2 i z b ?_ ?_⟩, h.2 l.length y a ?_ ?_⟩
    · rw [List.concat_eq_append, List.getElem?_append_left (List.getElem?_eq_some_iff.mp h1).1]; exact h1
    · rw [List.getElem?_append_left (List.getElem?_eq_some_iff.mp h2).1]; exact h2
    · rw [List.concat_eq_append, ← hl, List.getElem?_append_right (Nat.le_refl _), Nat.sub_self]; rfl
    · rw [List.getElem?_append_right (Nat.le_refl _), Nat.sub_self]; rfl
theorem nm_kids (t : Fm) (h : t.kw ≠ "name") : t.nm = t.kids.flatMap Fm.nm := by
  cases t with
  | name s => exact absurd rfl h
  | _ => simp [Fm.nm, Fm.kids]
theorem kw_name {t : Fm} (h : t.kw = "name") : ∃ s, t = .name s := by
  cases t with
  | name s => exact ⟨s, rfl⟩
  | int n => exact absurd (show ("int" : Str) = "name" from h) (by decide +kernel)
  | fna f a => exact absurd (show ("call" : Str) = "name" from h) (by decide +kernel)
  | fnb f a c => exact absurd (show ("call" : Str) = "name" from h) (by decide +kernel)
  | un k a => exact absurd (.inr h) (unw_no k).2
  | op k a b => exact absurd (.inr h) (opw_no k).2
/-- what the loop of names_of keeps -/
structure NoI (K : PySem.W.Frag) (P : Program) (w : World) (H : Hp) (t : Fm) (x : V) (a p : Addr) (m : Nat) (ts : List Fm) (ys : List V) (l : List Str) (H' : Hp) : Prop where
  ex : Ex H H'
  st : H' a = some (SetT P w a l)
  ls : H' p = some (.lst ys)
  it : ItemsR (FmI K) ts ys H'
  nd : l.Nodup
  mem : ∀ k, (k ∈ l ∨ k ∈ ts.flatMap Fm.nm) ↔ k ∈ t.nm
  m_ : m = (ts.map Fm.sz).sum
  le : l.length + m ≤ t.sz
theorem sum_sz : ∀ ts : List Fm, ts.length ≤ (ts.map Fm.sz).sum
  | [] => Nat.le_refl _
  | t :: ts => by have := sum_sz ts; have := sz_pos t; rw [List.map_cons, List.sum_cons, List.length_cons]; omega
theorem pure_names_of {vs : List V} (h : sp_names_of K vs H Q E) : t_names_of K P w { nx := fun _ H' => Q .non H', rt := Q } (start ["tree", "found", "trees", "part"] vs) H := by
  obtain ⟨x, R, rfl, ⟨t, hx, hz, rfl⟩, k⟩ := h
  refine q_asgW ⟨rfl, fun a ha => ?_⟩
  have e1 : Ex H (upd H a (SetT P w a [])) := Ex.new ha
  refine q_asgL (xs := [x]) (el_lst (ea_cons (ev_var rfl) ea_nil) (by show 1 ≤ 100000; omega)) fun p H2 hp e2 h2 => ?_
  have hpa : p ≠ a := fun z => by rw [z, upd_same] at hp; cases hp
  have hpn : H p = none := by rwa [upd_ne hpa] at hp
  refine q_while' (fun m σ H' => ∃ (z : Option V) (ts : List Fm) (ys : List V) (l : List Str), σ = [some x, some (.ref a), some (.ref p), z] ∧ NoI K P w H t x a p m ts ys l H') t.sz
    ⟨none, [t], [x], [], rfl, e1.trans e2, e2 a _ upd_same, h2, ItemsR.cons (hx.ex (e1.trans e2)) .nil, List.nodup_nil, fun k => by simp, by simp, by simp⟩ ?_
  rintro m σ' H' ⟨z, ts, ys, l, rfl, I⟩
  refine ⟨!ys.isEmpty, et_truL (ev_var rfl) (sq_of I.ls), fun hb H3 e3 => ?_, fun hb H3 e3 => ?_⟩
  · rcases List.eq_nil_or_concat ts with rfl | ⟨ts', u, hts⟩
    · have : ys = [] := List.length_eq_zero_iff.mp I.it.1
      rw [this] at hb
      cases hb
    · rw [List.concat_eq_append] at hts
      subst hts
      obtain ⟨ys', y, rfl, hit, hy⟩ := items_last I.it
      refine q_asgW (popW (ev_var rfl) (e3 p _ I.ls) fun H4 e4 => ?_)
      have e34 := e3.trans e4
      have hl4 : H4 p = some (.lst (ys' ++ [y])) := e34 p _ I.ls
      have tx : TEx H' (upd H4 p (.lst ys')) := (Ex.t e34).trans (TEx.put hl4)
      have hst : (upd H4 p (.lst ys')) a = some (SetT P w a l) := by rw [upd_ne (Ne.symm hpa)]; exact e34 a _ I.st
      have hyu : FmV K (upd H4 p (.lst ys')) y u := FmV.tex hy tx
      have hx4 : Ex H (upd H4 p (.lst ys')) := Ex.mut (I.ex.trans e34) hpn
      have hit4 : ItemsR (FmI K) ts' ys' (upd H4 p (.lst ys')) := hit.tex (fun a => fmI a) tx
      have hm : m = (ts'.map Fm.sz).sum + u.sz := by rw [I.m_, List.map_append, List.sum_append]; simp
      have hle := I.le
      have hus := sz_pos u
      have huk := sz_kids u
      have hlen : l.length + 1 < scanBound := by unfold scanBound; omega
      have last : ∀ (D : Ends) (H5 : Hp) (l' : List Str), Ex H H5 → TEx (upd H4 p (.lst ys')) H5 → H5 a = some (SetT P w a l') → H5 p = some (.lst ys') → l'.Nodup → (∀ k, (k ∈ l' ∨ k ∈ (ts' ++ u.kids).flatMap Fm.nm) ↔ k ∈ t.nm) → l'.length + (ts'.map Fm.sz).sum + (u.sz - 1) ≤ t.sz →
          (∀ m' ts ys l H2, m' < m → NoI K P w H t x a p m' ts ys l H2 → D.nx [some x, some (.ref a), some (.ref p), some y] H2) →
          tDrop (tBM K "list" (rExtendT K) (tVar 2) (tCons (tCall (sp_trees_in K) [] E0 (tCons (tVar 3) tNil)) tNil)) D [some x, some (.ref a), some (.ref p), some y] H5 := fun D H5 l' eH tx5 h5a h5p nd' mem' le' kd => by
        have hu5 : FmV K H5 y u := FmV.tex hyu tx5
        have hk : ER (tCall (sp_trees_in K) [] E0 (tCons (tVar 3) tNil)) [some x, some (.ref a), some (.ref p), some y] H5 (KidR K u.kids) := er_call1 (er_var (i := 3) rfl fun H6 e6 => hu5.ex e6) fmT.mono fun v H1 e1 g1 => ⟨u, g1, rfl⟩
        refine s_dropW (ev_var (i := 2) (v := .ref p) rfl H5 (Ex.refl _) _ fun H6 e6 => ⟨Or.inl ⟨rfl, _, sq_of (e6 p _ h5p)⟩, ea_one hk (kidR _) H6 e6 _ fun vs H7 e7 ⟨v, hv, q, zs, h1, h2, h3⟩ => ?_⟩)
        subst hv h1
        have e67 := e6.trans e7
        have hp7 : H7 p = some (.lst ys') := e67 p _ h5p
        have tx7 : TEx H7 (upd H7 p (.lst (ys' ++ zs))) := TEx.put hp7
        have hzl : ys'.length + zs.length ≤ 6000 := by
          have q1 := sum_sz ts'
          have q2 := sum_sz u.kids
          have q3 := hit.1
          have q4 := h3.1
          omega
        refine ⟨p, q, ys', zs, rfl, rfl, hp7, h2, Nat.le_trans hzl (by decide), ?_⟩
        refine kd ((ts' ++ u.kids).map Fm.sz).sum (ts' ++ u.kids) (ys' ++ zs) l' _ ?_ ⟨Ex.mut (eH.trans e67) hpn, ?_, upd_same, ?_, nd', mem', rfl, ?_⟩
        · rw [List.map_append, List.sum_append]
          omega
        · rw [upd_ne (Ne.symm hpa)]
          exact e67 a _ h5a
        · exact ((hit4.tex (fun a => fmI a) (tx5.trans (Ex.t e67))).append (h3)).tex (fun a => fmI a) tx7
        · rw [List.map_append, List.sum_append]
          omega
      by_cases hkw : u.kw = "name"
      · obtain ⟨s, rfl⟩ := kw_name hkw
        refine q_when (b := true) (by
          have := et_test (ev_eq (ev_kw (σ := [some x, some (.ref a), some (.ref p), some y]) (i := 3) hyu rfl) (ev_c (v := .str "name")) rfl)
          rwa [decide_eq_true (show V.str (Fm.name s).kw = V.str "name" from rfl)] at this) (fun _ H5 e5 => ?_) fun z => by cases z
        obtain ⟨b, rfl, hs⟩ := fm_name hyu
        refine s_dropW (ev_var (i := 1) (v := .ref a) rfl H5 (Ex.refl _) _ fun H6 e6 => ⟨⟨a, l, rfl, (e5.trans e6) a _ hst⟩, ?_⟩)
        refine ev_atT (v := vS s) (ev_var (i := 3) (v := .ref b) rfl) ev_c (ex_t e5 hs) (atI_n (i := 1) rfl) H6 e6 _ fun H7 e7 => ?_
        have e57 := e5.trans (e6.trans e7)
        have ha7 := e57 a _ hst
        refine ⟨a, mkS s, l, rfl, rfl, ha7, hlen, ?_⟩
        have tx8 : TEx (upd H4 p (.lst ys')) (upd H7 a (SetT P w a (if mkS s ∈ l then l else mkS s :: l))) := (Ex.t e57).trans (TEx.putS ha7 trivial)
        refine last _ _ _ (Ex.mut (hx4.trans e57) ha) tx8 upd_same (by rw [upd_ne hpa]; exact e57 p _ upd_same) ?_ (fun k => ?_) ?_ (fun m' ts ys l H2 hm' I2 => ⟨m', hm', _, ts, ys, l, rfl, I2⟩)
        · by_cases c : mkS s ∈ l
          · rw [if_pos c]; exact I.nd
          · rw [if_neg c]; exact List.nodup_cons.mpr ⟨c, I.nd⟩
        · rw [← I.mem k]
          show (k ∈ _ ∨ k ∈ (ts' ++ []).flatMap Fm.nm) ↔ (k ∈ l ∨ k ∈ (ts' ++ [Fm.name s]).flatMap Fm.nm)
          rw [List.append_nil, List.flatMap_append, List.mem_append]
          have e1 : k ∈ [Fm.name s].flatMap Fm.nm ↔ k = mkS s := by simp [Fm.nm]
          rw [e1]
          by_cases c : mkS s ∈ l
          · rw [if_pos c]
            exact ⟨fun h => h.imp id .inl, fun h => h.elim .inl fun h => h.elim .inr fun h => .inl (h ▸ c)⟩
          · rw [if_neg c, List.mem_cons]
            exact ⟨fun h => h.elim (fun h => h.elim (fun h => .inr (.inr h)) .inl) fun h => .inr (.inl h), fun h => h.elim (fun h => .inl (.inr h)) fun h => h.elim .inr fun h => .inl (.inl h)⟩
        · have q : (if mkS s ∈ l then l else mkS s :: l).length ≤ l.length + 1 := by split <;> simp
          have : (Fm.name s).sz = 1 := rfl
          omega
      · refine q_when (b := false) (by
          have := et_test (ev_eq (ev_kw (σ := [some x, some (.ref a), some (.ref p), some y]) (i := 3) hyu rfl) (ev_c (v := .str "name")) rfl)
          rwa [decide_eq_false (fun z => hkw (V.str.inj z))] at this) (fun z => by cases z) fun _ H5 e5 => ?_
        refine last _ _ l (hx4.trans e5) (Ex.t e5) (e5 a _ hst) (e5 p _ upd_same) I.nd (fun k => ?_) (by omega) (fun m' ts ys l H2 hm' I2 => ⟨m', hm', _, ts, ys, l, rfl, I2⟩)
        have e1 : [u].flatMap Fm.nm = u.kids.flatMap Fm.nm := by rw [← nm_kids u hkw]; simp
        rw [← I.mem k, List.flatMap_append, List.flatMap_append, e1]
  · have hy0 : ys = [] := by
      cases ys with
      | nil => rfl
      | cons y ys => cases hb
    have ht0 : ts = [] := List.length_eq_zero_iff.mp (by rw [← I.it.1, hy0]; rfl)
    refine s_retR (R := NmR t) (fun H4 e4 Qk q => ea_cons (ev_var (i := 1) (v := .ref a) rfl) ea_nil H4 e4 _ fun H5 e5 => ?_) fun v H4 e4 hv => k v H4 (I.ex.trans (e3.trans e4)) hv
    have hle := I.le
    refine ⟨a, l, rfl, (e3.trans (e4.trans e5)) a _ I.st, by omega, fun zs r hp hs hr => q _ _ (e5.trans (Ex.new hr)) ⟨r, zs, rfl, upd_same, hs, hp.nodup_iff.mpr I.nd, fun k => ?_⟩⟩
    rw [hp.mem_iff, ← I.mem k, ht0]
    simp
end
end Sk
set_option Elab.async false
set_option linter.all false
set_option maxRecDepth 100000
set_option maxHeartbeats 1000000
namespace Sk
open PySem L2 Evl Rd PyProof.Rows
/-- the law's levels -/
def Fm.ll : Fm → Nat
  | .int _ => 0
  | .name _ => 0
  | .op _ a b => 2 + max a.ll b.ll
  | .un _ a => 2 + a.ll
  | .fna _ a => 1 + a.ll
  | .fnb _ a b => 1 + max a.ll b.ll
def pLawLv (K : PySem.W.Frag) (d : Nat) : V → Hp → VP → Prop := fun x H R => ∃ t : Fm, FmV K H x t ∧ t.dp < d ∧ R = fun v _ => v = .int ((t.ll : Nat) : Int)
def sp_law_levels26 (K : PySem.W.Frag) (d : Nat) : Sp := spF1 (pLawLv K d)
section
variable {K : PySem.W.Frag} {H H' : Hp} {σ : L2.St} {te tf : TE} {E : XK} {Q : VK}
theorem vac_law_levels26 {vs : List V} (h : sp_law_levels26 K 0 vs H Q E) : False := by obtain ⟨x, R, _, ⟨t, _, hd, _⟩, _⟩ := h; exact Nat.not_lt_zero _ hd
def t_law_levels26 (K : PySem.W.Frag) (d : Nat) : TS := (tSeq (tAsg (tOp (rIxT K) (tVar 0) (tC (.int 0))) (gName 1))
    (tSeq (tIfS (tOr (tTest (tOp rEq (tVar 1) (tC (.str "int")))) (tTest (tOp rEq (tVar 1) (tC (.str "name"))))) (tRet (tC (.int 0))) tNext)
    (tSeq (tIfS (tTest (tOp rEq (tVar 1) (tC (.str "call")))) (tRet (tOp xAdd (tC (.int 1)) (tCB (rMax K) (tCons (tLc (iTup K (tOp (rIxT K) (tVar 0) (tC (.int 2)))) (gName 3) tYes (tCall (sp_law_levels26 K d) [] E0 (tCons (tVar 3) tNil)) [3]) tNil)))) tNext)
    (tSeq (tAsg (tLc (iTup K (tSl (rSlA K) (tVar 0) (tPart (tC (.int 1))) tNoPart)) (gName 3) tYes (tOp xAdd (tCall (sp_law_levels26 K d) [] E0 (tCons (tVar 3) tNil)) (tC (.int 1))) [3]) (gName 2))
    (tRet (tOp xAdd (tC (.int 1)) (tCB (rMax K) (tCons (tVar 2) tNil))))))))
theorem kids_dp {t u : Fm} (h : u ∈ t.kids) : u.dp < t.dp := by
  cases t with
  | int n => cases h
  | name s => cases h
  | un k a => rw [List.mem_singleton.mp h]; exact Nat.lt_succ_self _
  | fna f a => rw [List.mem_singleton.mp h]; exact Nat.lt_succ_self _
  | op k a b =>
    show u.dp < max a.dp b.dp + 1
    rcases List.mem_cons.mp h with rfl | h
    · omega
    · rw [List.mem_singleton.mp h]; omega
  | fnb f a b =>
    show u.dp < max a.dp b.dp + 1
    rcases List.mem_cons.mp h with rfl | h
    · omega
    · rw [List.mem_singleton.mp h]; omega
theorem kids_two (t : Fm) : t.kids.length ≤ 2 := by cases t <;> simp [Fm.kids]
theorem ints_of_kids {c : Nat} {ts : List Fm} {ys : List V} (h : ItemsR (fun (t : Fm) v _ => v = .int ((t.ll + c : Nat) : Int)) ts ys H) : ys = (ts.map fun t => ((t.ll + c : Nat) : Int)).map V.int := by
  refine List.ext_getElem? fun i => ?_
  rw [List.map_map, List.getElem?_map]
  cases e : ts[i]? with
  | none =>
    have := List.getElem?_eq_none_iff.mp e
    rw [List.getElem?_eq_none (by rw [h.1]; exact this)]; rfl
  | some t =>
    obtain ⟨y, hy, hv⟩ := h.at e
    rw [hy, hv]; rfl
/-- the most of the kids' levels -/
theorem max_kids {t : Fm} {c : Nat} (hn : t.kids ≠ []) : ∃ m ∈ t.kids.map (fun t => ((t.ll + c : Nat) : Int)), (∀ y ∈ t.kids.map (fun t => ((t.ll + c : Nat) : Int)), y ≤ m) ∧ m = (((t.kids.map Fm.ll).foldl max 0 + c : Nat) : Int) := by
  have two : ∀ a b : Fm, ∃ m ∈ [a, b].map (fun t => ((t.ll + c : Nat) : Int)), (∀ y ∈ [a, b].map (fun t => ((t.ll + c : Nat) : Int)), y ≤ m) ∧ m = ((([a, b].map Fm.ll).foldl max 0 + c : Nat) : Int) := fun a b => by
    have e : (([a, b].map Fm.ll).foldl max 0) = max a.ll b.ll := by simp
    rw [e]
    rcases Nat.le_total a.ll b.ll with q | q
    · exact ⟨((b.ll + c : Nat) : Int), by simp, by simp; omega, by rw [Nat.max_eq_right q]⟩
    · exact ⟨((a.ll + c : Nat) : Int), by simp, by simp; omega, by rw [Nat.max_eq_left q]⟩
  have one : ∀ a : Fm, ∃ m ∈ [a].map (fun t => ((t.ll + c : Nat) : Int)), (∀ y ∈ [a].map (fun t => ((t.ll + c : Nat) : Int)), y ≤ m) ∧ m = ((([a].map Fm.ll).foldl max 0 + c : Nat) : Int) := fun a => ⟨((a.ll + c : Nat) : Int), by simp, by simp, by simp⟩
  cases t with
  | int n => exact absurd rfl hn
  | name s => exact absurd rfl hn
  | un k a => exact one a
  | fna f a => exact one a
  | op k a b => exact two a b
  | fnb f a b => exact two a b
theorem ll_call {t : Fm} (h : t.kw = "call") : t.kids ≠ [] ∧ t.ll = 1 + (t.kids.map Fm.ll).foldl max 0 := by
  cases t with
  | int n => exact absurd (show ("int" : Str) = "call" from h) (by decide +kernel)
  | name s => exact absurd (show ("name" : Str) = "call" from h) (by decide +kernel)
  | un k a => exact absurd h (unw_no k).1
  | op k a b => exact absurd h (opw_no k).1
  | fna f a => exact ⟨by simp [Fm.kids], by simp [Fm.kids, Fm.ll]⟩
  | fnb f a b => exact ⟨by simp [Fm.kids], by simp [Fm.kids, Fm.ll]⟩
theorem ll_rest {t : Fm} (h : t.kw ≠ "call") (hi : ¬ (t.kw = "int" ∨ t.kw = "name")) : t.kids ≠ [] ∧ t.ll = 1 + ((t.kids.map Fm.ll).foldl max 0 + 1) := by
  cases t with
  | int n => exact absurd (.inl rfl) hi
  | name s => exact absurd (.inr rfl) hi
  | fna f a => exact absurd rfl h
  | fnb f a b => exact absurd rfl h
  | un k a => exact ⟨by simp [Fm.kids], by simp [Fm.kids, Fm.ll]; omega⟩
  | op k a b => exact ⟨by simp [Fm.kids], by simp [Fm.kids, Fm.ll]; omega⟩
theorem ev_lawLv {d : Nat} {t : Fm} (h : ER te σ H (fun v H => FmV K H v t)) (hd : t.dp < d) : Ev (tCall (sp_law_levels26 K d) [] E (tCons te tNil)) σ H (.int ((t.ll : Nat) : Int)) := ev_er (er_call1 h fmT.mono fun v H1 e1 g1 => ⟨t, g1, hd, rfl⟩)
theorem pure_law_levels26 {d : Nat} {vs : List V} (h : sp_law_levels26 K (d + 1) vs H Q E) : t_law_levels26 K d { nx := fun _ H' => Q .non H', rt := Q } (start ["tree", "word", "parts", "part"] vs) H := by
  obtain ⟨x, R, rfl, ⟨t, hx, hd, rfl⟩, k⟩ := h
  refine q_asg (v := .str t.kw) (ev_kw hx rfl) fun H1 e1 => ?_
  have hx1 := hx.ex e1
  have hor := et_or (b := decide (V.str t.kw = V.str "name")) (et_test (ev_eq (σ := [some x, some (.str t.kw), none, none]) (H := H1) (ev_var (i := 1) rfl) (ev_c (v := .str "int")) rfl)) fun _ => et_test (ev_eq (ev_var (i := 1) rfl) (ev_c (v := .str "name")) rfl)
  refine q_when hor (fun hb H2 e2 => ?_) fun hb H2 e2 => ?_
  · have h0 : t.ll = 0 := by
      rw [Bool.or_eq_true, decide_eq_true_eq, decide_eq_true_eq] at hb
      have hb := hb.imp V.str.inj V.str.inj
      cases t with
      | int n => rfl
      | name s => rfl
      | fna f a => exact absurd hb (by show ¬ (("call" : Str) = "int" ∨ ("call" : Str) = "name"); decide +kernel)
      | fnb f a c => exact absurd hb (by show ¬ (("call" : Str) = "int" ∨ ("call" : Str) = "name"); decide +kernel)
      | un kk a => exact absurd hb (unw_no kk).2
      | op kk a b => exact absurd hb (opw_no kk).2
    exact s_ret ev_c fun H3 e3 => k _ H3 (e1.trans (e2.trans e3)) (by rw [h0]; rfl)
  · rw [Bool.or_eq_false_iff, decide_eq_false_iff_not, decide_eq_false_iff_not] at hb
    have hn : ¬ (t.kw = "int" ∨ t.kw = "name") := fun z => z.elim (fun z => hb.1 (by rw [z])) fun z => hb.2 (by rw [z])
    have hx2 := hx1.ex e2
    have el : ∀ (c : Nat) (H4 : Hp) (u : Fm) (y : V), u ∈ t.kids → FmV K H4 y u → Ev (tCall (sp_law_levels26 K d) [] E0 (tCons (tVar 3) tNil)) [some x, some (.str t.kw), none, some y] H4 (.int ((u.ll : Nat) : Int)) := fun c H4 u y hu hy => ev_lawLv (er_var (i := 3) rfl fun H5 e5 => hy.ex e5) (by have := kids_dp hu; omega)
    by_cases hc : t.kw = "call"
    · refine w_yes rfl (decide_eq_true (by rw [hc])) fun H3 e3 => ?_
      obtain ⟨hne, hll⟩ := ll_call hc
      obtain ⟨m, hm, hmx, hme⟩ := max_kids (c := 0) hne
      refine s_ret (v := .int ((t.ll : Nat) : Int)) (ev_is (ev_add ev_c (ev_maxL (l := t.kids.map fun t => ((t.ll + 0 : Nat) : Int)) (m := m) ?_ hm hmx)) (congrArg V.int (by rw [hme, hll]; omega))) fun H4 e4 => k _ H4 (e1.trans (e2.trans (e3.trans e4))) rfl
      refine (er_lcIT (R1 := FmI K) (R2 := fun (t : Fm) v _ => v = .int ((t.ll + 0 : Nat) : Int)) (l := t.kids) (er_callK (hx2.ex e3) rfl hc) (fun a => (fmI a).mono) (fun _ => monoTC) (by have := kids_two t; omega) fun i u y H4 hi hy e4 Qk q => ?_).imp fun v H4 e4 ⟨p, ys, h1, h2, h3, h4⟩ => ⟨p, h1, by rw [← ints_of_kids h4]; exact h3⟩
      exact ⟨rfl, el 0 H4 u y (List.mem_of_getElem? hi) hy H4 (Ex.refl _) _ fun H5 e5 => q _ H5 e5 rfl⟩
    · refine w_no rfl (decide_eq_false fun z => hc (V.str.inj z)) fun H3 e3 => ?_
      obtain ⟨hne, hll⟩ := ll_rest hc hn
      obtain ⟨m, hm, hmx, hme⟩ := max_kids (c := 1) hne
      refine q_asgR (R := fun v H2 => ∃ p, v = .ref p ∧ H2 p = some (.lst ((t.kids.map fun t => ((t.ll + 1 : Nat) : Int)).map V.int))) ?_ fun v H4 e4 hv => ?_
      · refine (er_lcIT (R1 := FmI K) (R2 := fun (t : Fm) v _ => v = .int ((t.ll + 1 : Nat) : Int)) (l := t.kids) (er_kids (hx2.ex e3) rfl hc hn) (fun a => (fmI a).mono) (fun _ => monoTC) (by have := kids_two t; omega) fun i u y H4 hi hy e4 Qk q => ?_).imp fun v H4 e4 ⟨p, ys, h1, h2, h3, h4⟩ => ⟨p, h1, by rw [← ints_of_kids h4]; exact h3⟩
        exact ⟨rfl, ev_is (ev_add (el 1 H4 u y (List.mem_of_getElem? hi) hy) ev_c) (congrArg V.int (show ((u.ll : Nat) : Int) + 1 = ((u.ll + 1 : Nat) : Int) by omega)) H4 (Ex.refl _) _ fun H5 e5 => q _ H5 e5 rfl⟩
      · obtain ⟨p, rfl, hp⟩ := hv
        exact s_ret (v := .int ((t.ll : Nat) : Int)) (ev_is (ev_add ev_c (ev_maxL (l := t.kids.map fun t => ((t.ll + 1 : Nat) : Int)) (m := m) (er_ev (ev_var rfl) fun H5 e5 => ⟨p, rfl, e5 p _ hp⟩) hm hmx)) (congrArg V.int (by rw [hme, hll]; omega))) fun H5 e5 => k _ H5 (e1.trans (e2.trans (e3.trans (e4.trans e5)))) rfl
end
end Sk
set_option Elab.async false
set_option linter.all false
set_option maxRecDepth 100000
set_option maxHeartbeats 1000000
namespace Sk
open PySem L2 Evl Rd PyProof.Rows
def StL (l : List Str) : VP := fun v H => ∃ p, v = .ref p ∧ H p = some (.lst (l.map V.str))
theorem stL (l : List Str) : Mono (StL l) := fun v H1 H2 e ⟨p, h1, h2⟩ => ⟨p, h1, e p _ h2⟩
theorem nm_len : ∀ t : Fm, t.nm.length ≤ t.sz
  | .int _ => Nat.zero_le _
  | .name _ => Nat.le_refl 1
  | .un _ a => Nat.le_succ_of_le (nm_len a)
  | .fna _ a => Nat.le_succ_of_le (nm_len a)
  | .op _ a b => by have := nm_len a; have := nm_len b; show (a.nm ++ b.nm).length ≤ a.sz + b.sz + 1; rw [List.length_append]; omega
  | .fnb _ a b => by have := nm_len a; have := nm_len b; show (a.nm ++ b.nm).length ≤ a.sz + b.sz + 1; rw [List.length_append]; omega
def pLawNm (K : PySem.W.Frag) (d : Nat) : V → Hp → VP → Prop := fun x H R => ∃ t : Fm, FmV K H x t ∧ t.dp < d ∧ t.sz ≤ 3000 ∧ R = StL t.nm
def sp_law_names26 (K : PySem.W.Frag) (d : Nat) : Sp := spF1 (pLawNm K d)
section
variable {K : PySem.W.Frag} {H H' : Hp} {σ : L2.St} {te tf : TE} {E : XK} {Q : VK}
theorem vac_law_names26 {vs : List V} (h : sp_law_names26 K 0 vs H Q E) : False := by obtain ⟨x, R, _, ⟨t, _, hd, _⟩, _⟩ := h; exact Nat.not_lt_zero _ hd
def t_law_names26 (K : PySem.W.Frag) (d : Nat) : TS := (tSeq (tIfS (tTest (tOp rEq (tOp (rIxT K) (tVar 0) (tC (.int 0))) (tC (.str "int")))) (tRet (tLst tNil)) tNext)
    (tSeq (tIfS (tTest (tOp rEq (tOp (rIxT K) (tVar 0) (tC (.int 0))) (tC (.str "name")))) (tRet (tLst (tCons (tOp (rIxT K) (tVar 0) (tC (.int 1))) tNil))) tNext)
    (tSeq (tAsg (tSl (rSlA K) (tVar 0) (tPart (tC (.int 1))) tNoPart) (gName 1))
    (tSeq (tIfS (tTest (tOp rEq (tOp (rIxT K) (tVar 0) (tC (.int 0))) (tC (.str "call")))) (tAsg (tOp (rIxT K) (tVar 0) (tC (.int 2))) (gName 1)) tNext)
    (tSeq (tAsg (tLst tNil) (gName 2))
    (tSeq (tFor (iTup K (tVar 1)) (gName 3) (tAsg (tOp rCat (tVar 2) (tCall (sp_law_names26 K d) [] E0 (tCons (tVar 3) tNil))) (gName 2)))
    (tRet (tVar 2))))))))
theorem nm_take {ts : List Fm} {i : Nat} {u : Fm} (h : ts[i]? = some u) : (ts.take (i + 1)).flatMap Fm.nm = (ts.take i).flatMap Fm.nm ++ u.nm := by
  rw [List.take_succ, h, List.flatMap_append]
  simp
theorem sz_mem {ts : List Fm} {u : Fm} (h : u ∈ ts) : u.sz ≤ (ts.map Fm.sz).sum := by
  induction ts with
  | nil => cases h
  | cons a ts ih =>
    rw [List.map_cons, List.sum_cons]
    rcases List.mem_cons.mp h with rfl | h
    · omega
    · have := ih h; omega
theorem flat_len : ∀ ts : List Fm, (ts.flatMap Fm.nm).length ≤ (ts.map Fm.sz).sum
  | [] => Nat.le_refl _
  | t :: ts => by have := flat_len ts; have := nm_len t; rw [List.flatMap_cons, List.length_append, List.map_cons, List.sum_cons]; omega
theorem take_len (ts : List Fm) (i : Nat) : ((ts.take i).map Fm.sz).sum ≤ (ts.map Fm.sz).sum := by
  conv => rhs; rw [← List.take_append_drop i ts, List.map_append, List.sum_append]
  omega
theorem ev_el {d : Nat} {t : Fm} (h : ER te σ H (fun v H => FmV K H v t)) (hd : t.dp < d) (hz : t.sz ≤ 3000) : ER (tCall (sp_law_names26 K d) [] E (tCons te tNil)) σ H (StL t.nm) := er_call1 h fmT.mono fun v H1 e1 g1 => ⟨t, g1, hd, hz, rfl⟩
theorem pure_law_names26 {d : Nat} {vs : List V} (h : sp_law_names26 K (d + 1) vs H Q E) : t_law_names26 K d { nx := fun _ H' => Q .non H', rt := Q } (start ["tree", "parts", "found", "part"] vs) H := by
  obtain ⟨x, R, rfl, ⟨t, hx, hd, hz, rfl⟩, k⟩ := h
  have is : ∀ (H1 : Hp) (z : Str), Ex H H1 → EvT (tTest (tOp rEq (tOp (rIxT K) (tVar 0) (tC (.int 0))) (tC (.str z)))) (start ["tree", "parts", "found", "part"] [x]) H1 (decide (V.str t.kw = V.str z)) := fun H1 z e => et_test (ev_eq (ev_kw (i := 0) (hx.ex e) rfl) (ev_c (v := .str z)) rfl)
  have loop : ∀ (q : Addr) (zs : List V) (H2 : Hp), Ex H H2 → SqT K H2 q zs → ItemsR (FmI K) t.kids zs H2 → t.nm = t.kids.flatMap Fm.nm →
      tSeq (tAsg (tLst tNil) (gName 2)) (tSeq (tFor (iTup K (tVar 1)) (gName 3) (tAsg (tOp rCat (tVar 2) (tCall (sp_law_names26 K d) [] E0 (tCons (tVar 3) tNil))) (gName 2))) (tRet (tVar 2))) { nx := fun _ H' => Q .non H', rt := Q } [some x, some (.ref q), none, none] H2 := fun q zs H2 e2 hq hit hnm => by
    refine q_asgL (el_lst ea_nil (by decide)) fun r H3 hr e3 h3 => ?_
    refine q_forT (ev_var (i := 1) rfl) (ex_t e3 hq) (fun i σ' H' => ∃ (z : Option V) (r : Addr), σ' = [some x, some (.ref q), some (.ref r), z] ∧ Ex H2 H' ∧ H' r = some (.lst (((t.kids.take i).flatMap Fm.nm).map V.str))) (fun H4 e4 => ⟨none, r, rfl, e3.trans e4, by rw [List.take_zero]; exact e4 r _ h3⟩) (fun i σ' H' _ ⟨z, r, _, e, _⟩ => ex_t e hq) (fun i y σ' H' hi ⟨z, r, hσ, e, hr⟩ => ?_) fun σ' H' ⟨z, r, hσ, e, hr⟩ => ?_
    · subst hσ
      obtain ⟨u, hu, hy⟩ := hit.of_at hi
      have hmem := List.mem_of_getElem? hu
      have hud := kids_dp hmem
      have hus := sz_mem hmem
      have hks := sz_kids t
      have hfl := flat_len (t.kids.take i)
      have htl := take_len t.kids i
      refine s_asgR (er_catV (R := fun zs _ => zs = u.nm.map V.str) (ev_var (i := 2) rfl) hr ((ev_el (t := u) (er_var (i := 3) rfl fun H5 e5 => FmV.ex (FmV.ex hy e) e5) (by omega) (by omega)).imp fun v H5 e5 ⟨p, h1, h2⟩ => ⟨p, _, h1, h2, rfl⟩) (fun _ _ _ _ h => h) fun zs H5 hzs => by
        have := nm_len u
        rw [hzs, List.length_map, List.length_map]
        omega) fun v H5 e5 ⟨p, zs, hv, hp, hzs⟩ => ⟨some y, p, by rw [hv]; rfl, e.trans e5, by rw [hp, hzs, nm_take hu, List.map_append]⟩
    · subst hσ
      rw [hit.1, List.take_length, ← hnm] at hr
      exact s_ret (ev_var (i := 2) rfl) fun H4 e4 => k _ H4 (e2.trans (e.trans e4)) ⟨r, rfl, e4 r _ hr⟩
  by_cases h1 : t.kw = "int"
  · refine q_when (b := true) (by have := is H "int" (Ex.refl _); rwa [decide_eq_true (show V.str t.kw = V.str "int" by rw [h1])] at this) (fun _ H1 e1 => ?_) fun z => by cases z
    refine s_retR (R := StL t.nm) ?_ fun v H2 e2 hv => k v H2 (e1.trans e2) hv
    have h0 : t.nm = [] := by rw [nm_kids t (by rw [h1]; decide +kernel), kids_nil (.inl h1)]; rfl
    rw [h0]
    exact fun H2 e2 Q q => el_lst ea_nil (by decide) H2 (Ex.refl _) _ fun p H3 hp e3 h3 => q _ _ e3 ⟨p, rfl, h3⟩
  · refine q_when (b := false) (by have := is H "int" (Ex.refl _); rwa [decide_eq_false (fun z => h1 (V.str.inj z))] at this) (fun z => by cases z) fun _ H1 e1 => ?_
    by_cases h2 : t.kw = "name"
    · obtain ⟨s, rfl⟩ := kw_name h2
      refine q_when (b := true) (by have := is H1 "name" e1; rwa [decide_eq_true (show V.str (Fm.name s).kw = V.str "name" from rfl)] at this) (fun _ H2 e2 => ?_) fun z => by cases z
      obtain ⟨b, rfl, hs⟩ := fm_name hx
      refine s_retR (R := StL (Fm.name s).nm) ?_ fun v H3 e3 hv => k v H3 (e1.trans (e2.trans e3)) hv
      exact fun H3 e3 Q q => el_lst (vs := [vS s]) (ea_cons (ev_atT (ev_var (i := 0) (v := .ref b) rfl) ev_c (ex_t (e1.trans (e2.trans e3)) hs) (atI_n (i := 1) rfl)) ea_nil) (by show 1 ≤ 100000; omega) H3 (Ex.refl _) _ fun p H4 hp e4 h4 => q _ _ e4 ⟨p, rfl, h4⟩
    · refine q_when (b := false) (by have := is H1 "name" e1; rwa [decide_eq_false (fun z => h2 (V.str.inj z))] at this) (fun z => by cases z) fun _ H2 e2 => ?_
      have hnm := nm_kids t h2
      have hn : ¬ (t.kw = "int" ∨ t.kw = "name") := fun z => z.elim h1 h2
      have hx2 := hx.ex (e1.trans e2)
      by_cases hc : t.kw = "call"
      · obtain ⟨a, xs, rfl, hs⟩ := fm_kw hx2
        refine q_asgR (er_fromT (n := 1) (ev_var (i := 0) rfl) hs ev_c) fun v H3 e3 ⟨q1, hv, _⟩ => ?_
        subst hv
        refine q_when (b := true) (by
          have := et_test (ev_eq (ev_kw (σ := [some (.ref a), some (.ref q1), none, none]) (i := 0) (hx2.ex e3) rfl) (ev_c (v := .str "call")) rfl)
          rwa [decide_eq_true (show V.str t.kw = V.str "call" by rw [hc])] at this) (fun _ H4 e4 => ?_) fun z => by cases z
        refine s_asgR (er_callK (i := 0) (hx2.ex (e3.trans e4)) rfl hc) fun v H5 e5 ⟨q, zs, hv, hq, hit⟩ => ?_
        subst hv
        exact loop q zs H5 (e1.trans (e2.trans (e3.trans (e4.trans e5)))) hq hit hnm
      · refine q_asgR (er_kids (i := 0) hx2 rfl hc hn) fun v H3 e3 ⟨q, zs, hv, hq, hit⟩ => ?_
        subst hv
        refine q_when (b := false) (by
          have := et_test (ev_eq (ev_kw (σ := [some x, some (.ref q), none, none]) (i := 0) (hx2.ex e3) rfl) (ev_c (v := .str "call")) rfl)
          rwa [decide_eq_false (fun z => hc (V.str.inj z))] at this) (fun z => by cases z) fun _ H4 e4 => ?_
        exact loop q zs H4 (e1.trans (e2.trans (e3.trans e4))) (ex_t e4 hq) (hit.ex (fun a => (fmI a).mono) e4) hnm
def onceL : List Str → List Str → List Str
  | f, [] => f
  | f, x :: l => onceL (if x ∈ f then f else f ++ [x]) l
theorem once_take (l : List Str) (f : List Str) {i : Nat} {x : Str} (h : l[i]? = some x) : onceL f (l.take (i + 1)) = (if x ∈ onceL f (l.take i) then onceL f (l.take i) else onceL f (l.take i) ++ [x]) := by
  induction l generalizing f i with
  | nil => simp at h
  | cons y l ih => cases i with
    | zero => cases h; rfl
    | succ i => exact ih _ h
theorem once_nd : ∀ (l f : List Str), f.Nodup → (onceL f l).Nodup
  | [], f, h => h
  | x :: l, f, h => once_nd l _ (by
    by_cases c : x ∈ f
    · rw [if_pos c]; exact h
    · rw [if_neg c]; exact List.nodup_append.mpr ⟨h, by simp, fun a ha b hb => by rw [List.mem_singleton.mp hb]; exact fun z => c (z ▸ ha)⟩)
theorem once_mem : ∀ (l f : List Str) (k : Str), k ∈ onceL f l ↔ k ∈ f ∨ k ∈ l
  | [], f, k => by simp [onceL]
  | x :: l, f, k => by
    show k ∈ onceL _ l ↔ _
    rw [once_mem l]
    by_cases c : x ∈ f
    · rw [if_pos c, List.mem_cons]
      exact ⟨fun h => h.imp id .inr, fun h => h.elim .inl fun h => h.elim (fun h => .inl (h ▸ c)) .inr⟩
    · rw [if_neg c, List.mem_append, List.mem_singleton, List.mem_cons, or_assoc]
theorem once_len (l f : List Str) : (onceL f l).length ≤ f.length + l.length := by
  induction l generalizing f with
  | nil => exact Nat.le_refl _
  | cons x l ih =>
    have := ih (if x ∈ f then f else f ++ [x])
    have q : (if x ∈ f then f else f ++ [x]).length ≤ f.length + 1 := by split <;> simp
    show (onceL _ l).length ≤ _
    rw [List.length_cons]
    omega
def pLawOnce (K : PySem.W.Frag) : V → Hp → VP → Prop := fun x H R => ∃ (l : List Str), StL l x H ∧ l.length ≤ 3000 ∧ R = StL (onceL [] l)
def sp_law_once26 (K : PySem.W.Frag) : Sp := spF1 (pLawOnce K)
def t_law_once26 (K : PySem.W.Frag) : TS := (tSeq (tAsg (tLst tNil) (gName 1))
    (tSeq (tFor (iList K (tVar 0)) (gName 2) (tIfS (tTest (tOp (rIn K true) (tVar 2) (tVar 1))) (tDrop (tBM K "list" rAppend (tVar 1) (tCons (tVar 2) tNil))) tNext))
    (tRet (tVar 1))))
theorem inV_str (x : Str) (l : List Str) : inV (.str x) (l.map V.str) = decide (x ∈ l) := by
  unfold inV
  rw [Bool.eq_iff_iff, List.any_eq_true, decide_eq_true_eq]
  constructor
  · rintro ⟨y, hy, he⟩
    obtain ⟨u, hu, rfl⟩ := List.mem_map.mp hy
    have : u = x := by simpa [eqV] using he
    rw [← this]; exact hu
  · intro h
    exact ⟨.str x, List.mem_map_of_mem h, by simp [eqV]⟩
theorem pure_law_once26 {vs : List V} (h : sp_law_once26 K vs H Q E) : t_law_once26 K { nx := fun _ H' => Q .non H', rt := Q } (start ["names", "found", "name"] vs) H := by
  obtain ⟨x, R, rfl, ⟨l, ⟨p, rfl, hp⟩, hl, rfl⟩, k⟩ := h
  refine q_asgL (el_lst ea_nil (by decide)) fun f H1 hf e1 h1 => ?_
  refine q_forL (ev_var (i := 0) rfl) (sq_of (e1 p _ hp)) (fun i σ' H' => ∃ (z : Option V), σ' = [some (.ref p), some (.ref f), z] ∧ Ex H H' ∧ H' f = some (.lst ((onceL [] (l.take i)).map V.str))) (fun H4 e4 => ⟨none, rfl, e1.trans e4, by rw [List.take_zero]; exact e4 f _ h1⟩) (fun i σ' H' _ ⟨z, _, e, _⟩ => sq_of (e p _ hp)) (fun i y σ' H' hi ⟨z, hσ, e, hr⟩ => ?_) fun σ' H' ⟨z, hσ, e, hr⟩ => ?_
  · subst hσ
    rw [List.getElem?_map] at hi
    obtain ⟨s, hs, rfl⟩ : ∃ s, l[i]? = some s ∧ V.str s = y := by
      cases q : l[i]? with
      | none => rw [q] at hi; cases hi
      | some s => rw [q] at hi; exact ⟨s, rfl, Option.some.inj hi⟩
    have hon := once_take l [] hs
    have hln : (onceL [] (l.take i)).length ≤ 3000 := by have := once_len (l.take i) []; have := List.length_take_le i l; simp at *; omega
    have hin : EvT (tTest (tOp (rIn K true) (tVar 2) (tVar 1))) [some (.ref p), some (.ref f), some (.str s)] H' (!decide (s ∈ onceL [] (l.take i))) := et_test (ev_op (r := rIn K true) (ev_var (i := 2) rfl) (ev_var (i := 1) rfl) fun H2 e2 Q q => ⟨f, _, rfl, .inl (sq_of (e2 f _ hr)), rfl, by rw [List.all_map, List.all_eq_true]; exact fun _ _ => rfl, by rw [inV_str]; exact q H2 (Ex.refl _)⟩)
    refine s_when hin (fun hb H2 e2 => ?_) fun hb H2 e2 => ?_
    · have hm : ¬ s ∈ onceL [] (l.take i) := by
        rw [Bool.not_eq_true', decide_eq_false_iff_not] at hb
        exact hb
      rw [if_neg hm] at hon
      refine s_app (e2 f _ hr) (ev_var (i := 1) rfl) (ev_var (i := 2) (v := .str s) rfl) (by rw [List.length_map]; omega) fun H3 e3 => ⟨some (.str s), rfl, Ex.mut (e.trans (e2.trans e3)) hf, ?_⟩
      rw [upd_same, hon, List.map_append]
      rfl
    · have hm : s ∈ onceL [] (l.take i) := by
        rw [Bool.not_eq_false', decide_eq_true_eq] at hb
        exact hb
      rw [if_pos hm] at hon
      exact ⟨some (.str s), rfl, e.trans e2, by rw [hon]; exact e2 f _ hr⟩
  · subst hσ
    rw [List.length_map, List.take_length] at hr
    exact s_ret (ev_var (i := 1) rfl) fun H4 e4 => k _ H4 (e.trans e4) ⟨f, rfl, e4 f _ hr⟩
end
end Sk
set_option Elab.async false
set_option linter.all false
set_option maxRecDepth 100000
set_option maxHeartbeats 2000000
namespace Sk
open PySem L2 Evl Rd PyProof.Rows
theorem risingS_le : ∀ (l : List Str) (p : Str), risingS p l = true → List.Pairwise (fun a b : Str => a.cps.toList ≤ b.cps.toList) (p :: l)
  | [], p, _ => List.pairwise_singleton _ _
  | x :: l, p, h => by
    have h1 : (!PySem.Spec.ltCps x.cps.toList p.cps.toList && risingS x l) = true := h
    obtain ⟨h2, h3⟩ := Bool.and_eq_true_iff.mp h1
    have ih := risingS_le l x h3
    have hpx : p.cps.toList ≤ x.cps.toList := by
      rw [ltCps_eq, Bool.not_eq_true', decide_eq_false_iff_not] at h2
      exact List.not_lt.mp h2
    refine List.pairwise_cons.mpr ⟨fun y hy => ?_, ih⟩
    rcases List.mem_cons.mp hy with rfl | hy
    · exact hpx
    · exact List.le_trans hpx ((List.pairwise_cons.mp ih).1 y hy)
theorem sortedS_le : ∀ {l : List Str}, sortedS l = true → List.Pairwise (fun a b : Str => a.cps.toList ≤ b.cps.toList) l
  | [], _ => List.Pairwise.nil
  | x :: l, h => risingS_le l x h
theorem str_ext {a b : Str} (h : a.cps.toList = b.cps.toList) : a = b := by
  obtain ⟨⟨a⟩⟩ := a
  obtain ⟨⟨b⟩⟩ := b
  have h : a = b := h
  rw [h]
theorem sorted_same {l m : List Str} (h1 : sortedS l = true) (h2 : sortedS m = true) (p : l.Perm m) : l = m :=
  List.Perm.eq_of_pairwise (fun a b _ _ h h' => str_ext (List.le_antisymm h h')) (sortedS_le h1) (sortedS_le h2) p
section
variable {K : PySem.W.Frag} {H H' : Hp} {σ : L2.St} {te tf : TE} {E : XK} {Q : VK}
/-- two lists of the same texts -/
theorem ev_neSt {l : List Str} (hz : ∀ x ∈ l, PyData.strOk x = true) (h1 : ER te σ H (StL l)) (h2 : ER tf σ H (StL l)) : Ev (tOp (rNeD K) te tf) σ H (.bl false) := fun H1 e Q q =>
  h1 H1 e _ fun v H2 e2 r1 => h2 H2 (e.trans e2) _ fun w H3 e3 ⟨q2, hw, g2⟩ => by
    obtain ⟨q1, hv, g1⟩ := stL l _ _ _ e3 r1
    subst hv hw
    have all : ∀ l : List Str, DpAll K H3 (l.map V.str) (l.map PyData.str) := fun l => by
      induction l with
      | nil => exact .nil
      | cons a r ih => exact .cons (.str a) ih
    have lay : ∀ l : List Str, (∀ t ∈ l, PyData.strOk t = true) → PyData.canLayAll0 (l.map PyData.str) = true ∧ PyData.depthAll (l.map PyData.str) ≤ 0 := fun l => by
      induction l with
      | nil => intro _; exact ⟨rfl, Nat.le_refl _⟩
      | cons a r ih =>
        intro hl
        obtain ⟨i1, i2⟩ := ih fun t ht => hl t (List.mem_cons_of_mem _ ht)
        rw [List.map_cons, PyData.canLayAll0, PyData.depthAll, layS (hl a List.mem_cons_self), i1]
        exact ⟨rfl, by have : (PyData.str a).depth = 0 := rfl; omega⟩
    obtain ⟨y1, y2⟩ := lay l hz
    have hsh : SeqAt.shaped (.list (l.map PyData.str)) = true := by
      show (PyData.canLay0 (.list (l.map PyData.str)) && decide (PyData.depth (.list (l.map PyData.str)) ≤ 64)) = true
      rw [PyData.canLay0, y1, PyData.depth]
      exact decide_eq_true (by omega)
    refine ⟨_, _, .lst (sq_of g1) (all l), .lst (sq_of g2) (all l), hsh, hsh, ?_⟩
    rw [show PyData.eqv (.list (l.map PyData.str)) (.list (l.map PyData.str)) = true from SeqAt.eqv_refl _ (SeqAt.canLay_of_shaped hsh)]
    exact q H3 (e2.trans e3)
/-- x.replace(" ", ..) -/
theorem ev_repl {g : Nat} {z : Str} {l : List Nat} (h : Ev te σ H (vS l)) (hz : z = mkS (sp g)) (hg : g ≤ 3) (hl : l.length ≤ 90000) : Ev (CwR.tReplC te " " z) σ H (vS (spc g l)) := fun H1 e Q q =>
  h H1 e _ fun H2 e2 => ⟨mkS l, rfl, by
    rw [hz, mkS_len, mkS_len]
    have h7 : (sp g).length = g := List.length_replicate
    rw [h7]
    have : (l.length + 1) * g ≤ 90001 * 3 := Nat.mul_le_mul (by omega) hg
    omega, by
    rw [hz, show ((" " : Str)) = mkS [32] by rfl, repl_S]
    exact q H2 e2⟩
theorem ev_read_ne {t : Fm} {CB : Addr} {txt : List Nat} (h : Ev te σ H (vS txt)) (hz : txt.length ≤ 1000) (ho : RF txt (some t)) (h' : ER tf σ H (fun v H => FmV K H v t)) (hf : fine dgT t) (hd : t.dd ≤ 100) : Ev (tOp (rNeN K) (tCall (sp_read_formula K CB) [] E (tCons te tNil)) tf) σ H (.bl false) :=
  ev_neFm (er_readF h (by omega) ho) h' hf hd
def pLaw (K : PySem.W.Frag) : V → Hp → VP → Prop := fun x H R => ∃ (a : Addr) (ns : List Int), x = .ref a ∧ SqL K H a (ns.map V.int) ∧ ns.length ≤ 63 ∧ R = fun v _ => v = .bl true
def sp_law (K : PySem.W.Frag) : Sp := spF1 (pLaw K)
def t_law (K : PySem.W.Frag) (a_BadForm : Addr) : TS := (tSeq (tAsg (tCall (sp_law_row K) [] E0 (tCons (tVar 0) tNil)) (gName 1))
    (tSeq (tAsg (tSl (rSlL K) (tLst (tCons (tC (.str "a")) (tCons (tC (.str "b")) (tCons (tC (.str "ab")) (tCons (tC (.str "zzzz")) tNil))))) tNoPart (tPart (tOp xAdd (tC (.int 1)) (tOp xMod (tCB xInt1 (tCons (tCall (sp_law_at K) [] E0 (tCons (tVar 1) (tCons (tC (.int 0)) tNil))) tNil)) (tC (.int 4)))))) (gName 2))
    (tSeq (tAsg (tCall (sp_law_tree K 7) [] E0 (tCons (tVar 1) (tCons (tLst (tCons (tC (.int 3)) tNil)) (tCons (tOp xAdd (tC (.int 1)) (tOp xMod (tCB xInt1 (tCons (tCall (sp_law_at K) [] E0 (tCons (tVar 1) (tCons (tC (.int 1)) tNil))) tNil)) (tC (.int 5)))) (tCons (tVar 2) tNil))))) (gName 3))
    (tSeq (tAsg (tCall (sp_law_plain26 K 7) [] E0 (tCons (tVar 3) (tCons (tC (.int 0)) tNil))) (gName 4))
    (tSeq (tIfS (tTest (tOp rNe (tCall (sp_plain_text K 24) [] E0 (tCons (tVar 3) tNil)) (tVar 4))) (tRet (tC (.bl false))) tNext)
    (tSeq (tIfS (tTest (tOp (rNeD K) (tCall (sp_names_of K) [] E0 (tCons (tVar 3) tNil)) (tCB (rSortedS K) (tCons (tCall (sp_law_once26 K) [] E0 (tCons (tCall (sp_law_names26 K 7) [] E0 (tCons (tVar 3) tNil)) tNil)) tNil)))) (tRet (tC (.bl false))) tNext)
    (tSeq (tIfS (tOr (tTest (tOp xGt (tCB xLenS (tCons (tVar 4) tNil)) (tC (.int 1000)))) (tTest (tOp xGt (tCall (sp_law_levels26 K 7) [] E0 (tCons (tVar 3) tNil)) (tC (.int 15))))) (tRet (tC (.bl true))) tNext)
    (tSeq (tIfS (tOr (tTest (tOp (rNeN K) (tCall (sp_read_formula K a_BadForm) [] E0 (tCons (tVar 4) tNil)) (tVar 3))) (tTest (tOp rNe (tCall (sp_plain_text K 24) [] E0 (tCons (tCall (sp_read_formula K a_BadForm) [] E0 (tCons (tVar 4) tNil)) tNil)) (tVar 4)))) (tRet (tC (.bl false))) tNext)
    (tSeq (tIfS (tOr (tTest (tOp (rNeN K) (tCall (sp_read_formula K a_BadForm) [] E0 (tCons (tOp xAddS (tOp xAddS (tC (.str "  ")) (CwR.tReplC (tVar 4) " " "   ")) (tC (.str " "))) tNil)) (tVar 3))) (tTest (tOp (rNeN K) (tCall (sp_read_formula K a_BadForm) [] E0 (tCons (CwR.tReplC (tVar 4) " " "") tNil)) (tVar 3)))) (tRet (tC (.bl false))) tNext)
    (tSeq (tAsg (tCall (sp_law_plain26 K 7) [] E0 (tCons (tVar 3) (tCons (tC (.int 1)) tNil))) (gName 5))
    (tRet (tOrV (tOp xGt (tCB xLenS (tCons (tVar 5) tNil)) (tC (.int 1000))) (tAndV (tOp (rEqN K) (tCall (sp_read_formula K a_BadForm) [] E0 (tCons (tVar 5) tNil)) (tVar 3)) (tOp rEq (tCall (sp_plain_text K 24) [] E0 (tCons (tCall (sp_read_formula K a_BadForm) [] E0 (tCons (tOp xAddS (tOp xAddS (tC (.str "(")) (tVar 5)) (tC (.str ")"))) tNil)) tNil)) (tVar 4)))))))))))))))
theorem ev_lat26 {i : Nat} {l : List Int} {v : V} {k : Int} (hv : σ[i]? = some (some v)) (hl : l.length ≤ 4000) (hb : ∀ x ∈ l, 0 ≤ x ∧ x < 1009) (hi : IntsL l v H) (h : Ev te σ H (.int k)) : Ev (tCB xInt1 (tCons (tCall (sp_law_at K) [] E0 (tCons (tVar i) (tCons te tNil))) tNil)) σ H (.int (atF l k : Int)) :=
  ev_int1 (ev_lat (er_var hv fun H1 e1 => intsL l _ _ _ e1 hi) hl hb h)
theorem nms_lsN : ∀ s ∈ lsN, isName s = true ∧ s.length ≤ 4 := by decide +kernel
theorem nm_sub {ls : List (List Nat)} : ∀ t : Fm, t.bn ls → ∀ k ∈ t.nm, k ∈ ls.map mkS
  | .int n, h, k, hk => by cases hk
  | .name s, h, k, hk => by rw [List.mem_singleton.mp hk]; exact List.mem_map_of_mem h
  | .un _ a, h, k, hk => nm_sub a h k hk
  | .fna _ a, h, k, hk => nm_sub a h k hk
  | .op _ a b, h, k, hk => (List.mem_append.mp hk).elim (nm_sub a h.1 k) (nm_sub b h.2 k)
  | .fnb _ a b, h, k, hk => (List.mem_append.mp hk).elim (nm_sub a h.1 k) (nm_sub b h.2 k)
theorem nd_sub : ∀ {l m : List Str}, l.Nodup → (∀ x ∈ l, x ∈ m) → l.length ≤ m.length
  | [], m, _, _ => Nat.zero_le _
  | x :: l, m, nd, h => by
    have n2 := List.nodup_cons.mp nd
    have hx := h x List.mem_cons_self
    have p := List.perm_cons_erase hx
    have ih := nd_sub (m := m.erase x) n2.2 fun y hy => by
      rcases List.mem_cons.mp (p.mem_iff.mp (h y (List.mem_cons_of_mem _ hy))) with e | e
      · exact absurd (e ▸ hy) n2.1
      · exact e
    have := p.length_eq
    rw [List.length_cons] at this
    rw [List.length_cons]
    omega
theorem er_namesOf {t : Fm} (h : ER te σ H (fun v H => FmV K H v t)) (hz : t.sz ≤ 3000) : ER (tCall (sp_names_of K) [] E (tCons te tNil)) σ H (NmR t) := er_call1 h fmT.mono fun v H1 e1 g1 => ⟨t, g1, hz, rfl⟩
theorem er_sorted {d : Nat} {t : Fm} (h : ER te σ H (fun v H => FmV K H v t)) (hd : t.dp < d) (hz : t.sz ≤ 3000) (h64 : (onceL [] t.nm).length < 64) : ER (tCB (rSortedS K) (tCons (tCall (sp_law_once26 K) [] E (tCons (tCall (sp_law_names26 K d) [] E (tCons te tNil)) tNil)) tNil)) σ H (NmR t) := fun H1 e Q q => by
  have h1 : ER (tCall (sp_law_once26 K) [] E (tCons (tCall (sp_law_names26 K d) [] E (tCons te tNil)) tNil)) σ H (StL (onceL [] t.nm)) := er_call1 (ev_el h hd hz) (stL _) fun v H2 e2 g => ⟨t.nm, g, by have := nm_len t; omega, rfl⟩
  refine ea_one h1 (stL _) H1 e _ fun vs H2 e2 ⟨v, hv, p, hp, hl⟩ => ?_
  subst hv hp
  refine ⟨p, _, rfl, sq_of hl, h64, fun ys r hpm hs hr => q _ _ (e2.trans (Ex.new hr)) ⟨r, ys, rfl, upd_same, hs, hpm.nodup_iff.mpr (once_nd _ _ List.nodup_nil), fun k => ?_⟩⟩
  rw [hpm.mem_iff, once_mem]
  simp
theorem NmR.same {t : Fm} {v w : V} (h1 : NmR t v H) (h2 : NmR t w H') : ∃ ys, (∀ k, k ∈ ys ↔ k ∈ t.nm) ∧ StL ys v H ∧ StL ys w H' := by
  obtain ⟨p, ys, rfl, hp, hs, hn, hm⟩ := h1
  obtain ⟨q, zs, rfl, hq, hs', hn', hm'⟩ := h2
  have : ys = zs := sorted_same hs hs' (perm_len hn' (fun x hx => (hm x).mpr ((hm' x).mp hx)) (Nat.le_antisymm (nd_sub hn fun x hx => (hm' x).mpr ((hm x).mp hx)) (nd_sub hn' fun x hx => (hm x).mpr ((hm' x).mp hx))))
  subst this
  exact ⟨ys, hm, ⟨p, rfl, hp⟩, ⟨q, rfl, hq⟩⟩
theorem ev_neNm {t : Fm} (hz : ∀ k ∈ t.nm, PyData.strOk k = true) (h1 : ER te σ H (NmR t)) (h2 : ER tf σ H (NmR t)) : Ev (tOp (rNeD K) te tf) σ H (.bl false) := fun H1 e Q q =>
  h1 H1 e _ fun v H2 e2 r1 => h2 H2 (e.trans e2) _ fun w H3 e3 r2 => by
    obtain ⟨ys, hm, s1, s2⟩ := (nmR t _ _ _ e3 r1).same r2
    have := ev_neSt (K := K) (σ := [some v, some w]) (H := H3) (te := tVar 0) (tf := tVar 1) (l := ys) (fun x hx => hz x ((hm x).mp hx)) (er_var rfl fun H4 e4 => stL _ _ _ _ e4 s1) (er_var rfl fun H4 e4 => stL _ _ _ _ e4 s2)
    obtain ⟨x1, hx1, y1, hy1, z1⟩ := this H3 (Ex.refl _) _ fun H4 e4 => q H4 (e2.trans (e3.trans e4))
    cases hx1
    cases hy1
    exact z1
theorem pure_law {CB : Addr} {vs : List V} (h : sp_law K vs H Q E) : t_law K CB { nx := fun _ H' => Q .non H', rt := Q } (start ["script", "row", "names", "tree", "text", "wide"] vs) H := by
  obtain ⟨x, R, rfl, ⟨a, ns, rfl, hs, hn, rfl⟩, k⟩ := h
  refine q_asgR (er_call1 (R1 := fun v _ => v = .ref a) (er_is (ev_var rfl)) monoC fun v H1 e1 g => ⟨a, ns, g, ex_l e1 hs, hn, rfl⟩) fun rv H1 e1 hrow => ?_
  obtain ⟨l, hl, hb, hr⟩ := hrow
  have h0 := atF_lt hb 0
  refine q_asgL (el_upN (n := 1 + atF l 0 % 4) (xs := lsN.map vS) (el_lst (ea_cons (ev_cS (l := [97]) (by decide +kernel)) (ea_cons (ev_cS (l := [98]) (by decide +kernel)) (ea_cons (ev_cS (l := [97, 98]) (by decide +kernel)) (ea_cons (ev_cS (l := [122, 122, 122, 122]) (by decide +kernel)) ea_nil)))) (by decide)) fun H2 e2 => ev_is (ev_add ev_c (ev_mod (ev_lat26 rfl hl hb (intsL l _ _ _ e2 hr) ev_c) ev_c (by decide))) (congrArg V.int (by omega))) fun nm H2 hnm e2 h2 => ?_
  obtain ⟨ls, hls, hls10, hlsm⟩ : ∃ ls : List (List Nat), (lsN.map vS).take (1 + atF l 0 % 4) = ls.map vS ∧ ls.length ≤ 10 ∧ ∀ s ∈ ls, s ∈ lsN := ⟨lsN.take (1 + atF l 0 % 4), by rw [List.map_take], by rw [List.length_take]; show min _ 4 ≤ 10; omega, fun s hs => List.mem_of_mem_take hs⟩
  rw [hls] at h2
  have hr2 := intsL l _ _ _ e2 hr
  refine q_asgR (er_tree (dd := 7) (e := 1 + atF l 1 % 5) (z := 3) (ls := ls) rfl ev_c (ev_is (ev_add ev_c (ev_mod (ev_lat26 rfl hl hb hr2 ev_c) ev_c (by decide))) (congrArg V.int (by omega))) rfl hr2 hl hb ⟨nm, rfl, h2⟩ (by omega) (by omega)) fun tv H3 e3 ⟨t, ht, hdp, hbn⟩ => ?_
  have N : Nms ls := ⟨fun s hs => nms_lsN s (hlsm s hs)⟩
  have hf := bn_fine N t hbn
  have hd5 : t.dp ≤ 5 := by omega
  have hpow : 2 ^ t.dp ≤ 32 := Nat.pow_le_pow_right (n := 2) (by decide) hd5
  have len : ∀ (e : Least) (g : Nat), g ≤ 3 → (ftx dgT e g t).length ≤ 500 := fun e g hg => by have := bn_len N (e := e) hg t hbn; omega
  have hlv : ∀ e : Least, lv e t ≤ 10 := fun e => by have := lv_dp26 (e := e) t; omega
  have hcd : t.cd ≤ 24 := by have := cd_dp26 t; omega
  have hdd : t.dd ≤ 100 := by have := dd_dp t; omega
  have hsz : t.sz ≤ 3000 := by
    have h1 := sz_dp t
    have h2 : 2 ^ (t.dp + 1) ≤ 2 ^ 6 := Nat.pow_le_pow_right (by decide) (by omega)
    omega
  have l0 : (ltx 0 t).length ≤ 500 := len _ 1 (by omega)
  have l1 : (ltx 1 t).length ≤ 500 := len _ 1 (by omega)
  have plt : PlT t := ⟨hf, Nat.le_trans l0 (by decide)⟩
  have hok : ∀ k ∈ t.nm, PyData.strOk k = true := fun k hk => by
    obtain ⟨s, hs, rfl⟩ := List.mem_map.mp (nm_sub t hbn k hk)
    exact name_ok (N.nm s hs).1
  have hon : (onceL [] t.nm).length < 64 := by
    have := nd_sub (once_nd t.nm [] List.nodup_nil) (m := ls.map mkS) fun x hx => nm_sub t hbn x (((once_mem _ _ _).mp hx).elim (fun z => by cases z) id)
    rw [List.length_map] at this
    omega
  have hT : ∀ {s4 s5 : Option V} {H4 H5 : Hp}, Ex H3 H4 → ER (tVar 3) [some (.ref a), some rv, some (.ref nm), some tv, s4, s5] H4 (fun v H => FmV K H v t) := fun e4 => er_var (i := 3) rfl fun H5 e5 => (ht.ex e4).ex e5
  refine q_asg (v := vS (ltx 0 t)) (ev_lawPlain (t := t) (x := 0) (hT (H5 := H3) (Ex.refl _)) ev_c (by omega) (by omega) ⟨hf, by omega⟩) fun H4 e4 => ?_
  have v4 : ∀ {s5 : Option V} {H5 : Hp}, Ev (tVar 4) [some (.ref a), some rv, some (.ref nm), some tv, some (vS (ltx 0 t)), s5] H5 (vS (ltx 0 t)) := ev_var (i := 4) rfl
  have rf0 : RF (ltx 0 t) (some t) := by
    have := rf_sp (e := eP) (g := 1) (i := 0) (j := 0) (t := t) eP_ok hf (by have := hlv eP; omega) (by simp; have : (ftx dgT eP 1 t).length ≤ 500 := l0; omega)
    rwa [show sp 0 ++ ftx dgT eP 1 t ++ sp 0 = ltx 0 t by simp; rfl] at this
  refine q_when (b := false) ?_ (fun q => by cases q) fun _ H5 e5 => ?_
  · have := et_test (ev_neW (ev_plText (K := K) (E := E0) (d := 24) (hT (H5 := H4) e4) hcd plt) (v4 (s5 := none) (H5 := H4)))
    rwa [decide_eq_true (show ptx t = ltx 0 t from rfl)] at this
  have e35 := e4.trans e5
  refine q_when (b := false) (et_test (ev_neNm hok (er_namesOf (hT (H5 := H5) e35) hsz) (er_sorted (hT (H5 := H5) e35) (by omega) hsz hon))) (fun q => by cases q) fun _ H6 e6 => ?_
  have e36 := e35.trans e6
  have hor := et_or (et_test (ev_gt (ev_lenS (v4 (s5 := none) (H5 := H6)) (by omega)) (ev_c (v := .int 1000)))) fun _ => et_test (ev_gt (ev_lawLv (K := K) (E := E0) (d := 7) (hT (s5 := none) (H5 := H6) e36) (by omega)) (ev_c (v := .int 15)))
  refine q_when hor (fun _ H7 e7 => s_ret ev_c fun H8 e8 => k _ H8 (e1.trans (e2.trans (e3.trans (e36.trans (e7.trans e8))))) rfl) fun _ H7 e7 => ?_
  have e37 := e36.trans e7
  refine q_when (b := false || false) (et_or (et_test (ev_read_ne v4 (by omega) rf0 (hT (H5 := H7) e37) hf hdd)) fun _ => ?_) (fun q => by cases q) fun _ H8 e8 => ?_
  · have := et_test (ev_neW (ev_plText (K := K) (E := E0) (d := 24) (er_readF (K := K) (CB := CB) (E := E0) (v4 (s5 := none) (H5 := H7)) (by omega) rf0) hcd plt) (v4 (s5 := none) (H5 := H7)))
    rwa [decide_eq_true (show ptx t = ltx 0 t from rfl)] at this
  have e38 := e37.trans e8
  have s3 : spc 3 (ltx 0 t) = ftx dgT eP 3 t := ftx_spc (e := eP) t hf
  have s0 : spc 0 (ltx 0 t) = ftx dgT eP 0 t := ftx_spc (e := eP) t hf
  have l3 := len eP 3 (by omega)
  have l00 := len eP 0 (by omega)
  have r3 : Ev (tOp xAddS (tOp xAddS (tC (.str "  ")) (CwR.tReplC (tVar 4) " " "   ")) (tC (.str " "))) [some (.ref a), some rv, some (.ref nm), some tv, some (vS (ltx 0 t)), none] H8 (vS (sp 2 ++ ftx dgT eP 3 t ++ sp 1)) := by
    have q := ev_repl (g := 3) (z := "   ") (v4 (s5 := none) (H5 := H8)) (by decide +kernel) (by omega) (by omega)
    rw [s3] at q
    exact ev_addS (ev_addS (ev_cS (l := sp 2) (by decide +kernel)) q (by show 2 + _ ≤ _; omega)) (ev_cS (l := sp 1) (by decide +kernel)) (by rw [List.length_append]; show 2 + _ + 1 ≤ _; omega)
  have r0 : Ev (CwR.tReplC (tVar 4) " " "") [some (.ref a), some rv, some (.ref nm), some tv, some (vS (ltx 0 t)), none] H8 (vS (sp 0 ++ ftx dgT eP 0 t ++ sp 0)) := by
    have q := ev_repl (g := 0) (z := "") (v4 (s5 := none) (H5 := H8)) (by decide +kernel) (by omega) (by omega)
    rw [s0] at q
    rwa [show sp 0 ++ ftx dgT eP 0 t ++ sp 0 = ftx dgT eP 0 t by simp]
  have z3 : (sp 2 ++ ftx dgT eP 3 t ++ sp 1).length ≤ 1000 := by rw [List.length_append, List.length_append]; show 2 + _ + 1 ≤ _; omega
  have z0 : (sp 0 ++ ftx dgT eP 0 t ++ sp 0).length ≤ 1000 := by rw [List.length_append, List.length_append]; show 0 + _ + 0 ≤ _; omega
  refine q_when (b := false || false) (et_or (et_test (ev_read_ne r3 z3 (rf_sp eP_ok hf (by have := hlv eP; omega) z3) (hT (H5 := H8) e38) hf hdd)) fun _ => et_test (ev_read_ne r0 z0 (rf_sp eP_ok hf (by have := hlv eP; omega) z0) (hT (H5 := H8) e38) hf hdd)) (fun q => by cases q) fun _ H9 e9 => ?_
  have e39 := e38.trans e9
  refine q_asg (v := vS (ltx 1 t)) (ev_lawPlain (t := t) (x := 1) (hT (H5 := H9) e39) ev_c (by omega) (by omega) ⟨hf, by omega⟩) fun H10 e10 => ?_
  have e310 := e39.trans e10
  have v5 : ∀ {H5 : Hp}, Ev (tVar 5) [some (.ref a), some rv, some (.ref nm), some tv, some (vS (ltx 0 t)), some (vS (ltx 1 t))] H5 (vS (ltx 1 t)) := ev_var (i := 5) rfl
  have rf1 : RF (ltx 1 t) (some t) := by
    have := rf_sp (e := eX 1) (g := 1) (i := 0) (j := 0) (t := t) (eX_ok 1) hf (by have := hlv (eX 1); omega) (by simp; have : (ftx dgT (eX 1) 1 t).length ≤ 500 := l1; omega)
    rwa [show sp 0 ++ ftx dgT (eX 1) 1 t ++ sp 0 = ltx 1 t by simp] at this
  have zp : (parT true (ltx 1 t)).length ≤ 1000 := by have := (par_len true (ltx 1 t)).2; omega
  have rfp : RF (parT true (ltx 1 t)) (some t) := rf_par (eX_ok 1) hf (by have := hlv (eX 1); omega) zp
  have pp : Ev (tOp xAddS (tOp xAddS (tC (.str "(")) (tVar 5)) (tC (.str ")"))) [some (.ref a), some rv, some (.ref nm), some tv, some (vS (ltx 0 t)), some (vS (ltx 1 t))] H10 (vS (parT true (ltx 1 t))) :=
    ev_addS (l := [40] ++ ltx 1 t) (m := [41]) (ev_addS (l := [40]) (m := ltx 1 t) (ev_cS (by decide +kernel)) v5 (by show 1 + _ ≤ _; omega)) (ev_cS (by decide +kernel)) (by rw [List.length_append]; show 1 + _ + 1 ≤ _; omega)
  refine s_ret (v := .bl true) ?_ fun H11 e11 => k _ H11 (e1.trans (e2.trans (e3.trans (e310.trans e11)))) rfl
  have g1 := ev_gt (ev_lenS (v5 (H5 := H10)) (by omega)) (ev_c (v := .int 1000))
  have g2 := ev_eqSD (K := K) (d := t.data) ((er_readF (K := K) (CB := CB) (E := E0) (v5 (H5 := H10)) (by omega) rf1).imp fun v H2 _ g => g) ((hT (H5 := H10) e310).imp fun v H2 _ g => g) (fm_lay t hf) (Nat.le_trans (fm_depth t) hdd)
  have g3 := ev_eq (ev_plText (K := K) (E := E0) (d := 24) (er_readF (K := K) (CB := CB) (E := E0) pp (by omega) rfp) hcd plt) (v4 (s5 := some (vS (ltx 1 t))) (H5 := H10)) rfl
  have g4 := ev_orV g1 fun _ => ev_andV g2 fun _ => g3
  rwa [decide_eq_true (show vS (ptx t) = vS (ltx 0 t) from rfl), Bool.and_self, Bool.or_true] at g4
end
end Sk
namespace Sk
open PySem PySem.Spec PyProof.Rows L2 Evl
section
variable {P : Program} {w : World} {K : PySem.W.Frag} {mg : Str → Option Value} {base : Heap}
theorem sc_c_ReckonError : FnScope ["self", "why", "word"] ["self", "why", "word"] (defScope s_c_ReckonError) := ⟨rfl, rfl, rfl, by decide +kernel, rfl, by decide +kernel, by decide +kernel⟩
theorem ok_c_ReckonError {f : Addr} {fd : FuncData} {dvs : List V} (F : FunD K "__init__" "ReckonError.__init__" (defArgs s_c_ReckonError) (defBody s_c_ReckonError) (defScope s_c_ReckonError) dvs [] f fd) (bV : mg "ValueError" = none) (vV : PySem.W.findCls K (.type "ValueError") (.type "type") "__init__" = some (.val (.builtin "ValueError.__init__"))) : FnOk P w K mg base CX0 1 f fd ["self", "why", "word"] (sp_rinit K) := by
  refine F.ok (k := 0) sc_c_ReckonError (fun vs H Q E h => by obtain ⟨a, C, u, w, rfl, _⟩ := h; rfl) (fun cdv A outer s H vs Q E hr h => ⟨t_rinit K, ?_, pure_rinit h⟩)
  exact (pss_cons (ps_expr (pe_veinit (by rfl) bV vV (pa_cons (pv 0) (pa_cons (pv 1) pa_nil)))) (pss_one (ps_ost (pv 0) (pv 2))))
theorem sc_c_BadForm : FnScope ["self", "why"] ["self", "why"] (defScope s_c_BadForm) := ⟨rfl, rfl, rfl, by decide +kernel, rfl, by decide +kernel, by decide +kernel⟩
theorem ok_c_BadForm {f fR aR : Addr} {fd fdR : FuncData} {dvs : List V} (F : FunD K "__init__" "BadForm.__init__" (defArgs s_c_BadForm) (defBody s_c_BadForm) (defScope s_c_BadForm) dvs [] f fd) (mR : mg "ReckonError" = some (.ref aR)) (r : ClX.CRead K aR (.type "type")) (c : ClX.CVal K aR (.type "type") "__init__" (.ref fR) (.ref fR)) (kp : PySem.W.keepIn K (.ref fR) = true) (G : FnOk P w K mg base CX0 1 fR fdR ["self", "why", "word"] (sp_rinit K)) (b : Binds K fdR ["self", "why", "word"] []) : FnOk P w K mg base CX0 2 f fd ["self", "why"] (sp_cinit K (wordOf "BadForm")) := by
  refine F.ok (k := 1) sc_c_BadForm (fun vs H Q E h => by obtain ⟨a, C, u, rfl, _⟩ := h; rfl) (fun cdv A outer s H vs Q E hr h => ⟨t_cinit K aR (wordOf "BadForm"), ?_, pure_cinit h⟩)
  exact (pss_one (ps_expr (pe_cfn (by rfl) mR r c kp G hr b pass0 (pa_cons (pv 0) (pa_cons (pv 1) (pa_cons pe_str pa_nil))))))
abbrev N_run_of : List Str := ["characters", "text", "at", "end"]
theorem sc_run_of : FnScope N_run_of ["characters", "text", "at"] (defScope s_run_of) := ⟨rfl, rfl, rfl, by decide +kernel, rfl, by decide +kernel, by decide +kernel⟩
abbrev N_token_at : List Str := ["text", "at", "word", "digits", "mark"]
theorem sc_token_at : FnScope N_token_at ["text", "at"] (defScope s_token_at) := ⟨rfl, rfl, rfl, by decide +kernel, rfl, by decide +kernel, by decide +kernel⟩
abbrev N_tokens : List Str := ["text", "found", "at", "token"]
theorem sc_tokens : FnScope N_tokens ["text"] (defScope s_tokens) := ⟨rfl, rfl, rfl, by decide +kernel, rfl, by decide +kernel, by decide +kernel⟩
abbrev N_is_name : List Str := ["word"]
theorem sc_is_name : FnScope N_is_name ["word"] (defScope s_is_name) := ⟨rfl, rfl, rfl, by decide +kernel, rfl, by decide +kernel, by decide +kernel⟩
abbrev N_is_integer : List Str := ["word"]
theorem sc_is_integer : FnScope N_is_integer ["word"] (defScope s_is_integer) := ⟨rfl, rfl, rfl, by decide +kernel, rfl, by decide +kernel, by decide +kernel⟩
abbrev N_deeper : List Str := ["level"]
theorem sc_deeper : FnScope N_deeper ["level"] (defScope s_deeper) := ⟨rfl, rfl, rfl, by decide +kernel, rfl, by decide +kernel, by decide +kernel⟩
abbrev N_Reader_init : List Str := ["self", "text"]
theorem sc_Reader_init : FnScope N_Reader_init ["self", "text"] (defScope s_Reader_init) := ⟨rfl, rfl, rfl, by decide +kernel, rfl, by decide +kernel, by decide +kernel⟩
abbrev N_Reader_ahead : List Str := ["self"]
theorem sc_Reader_ahead : FnScope N_Reader_ahead ["self"] (defScope s_Reader_ahead) := ⟨rfl, rfl, rfl, by decide +kernel, rfl, by decide +kernel, by decide +kernel⟩
abbrev N_Reader_take : List Str := ["self", "token"]
theorem sc_Reader_take : FnScope N_Reader_take ["self"] (defScope s_Reader_take) := ⟨rfl, rfl, rfl, by decide +kernel, rfl, by decide +kernel, by decide +kernel⟩
abbrev N_Reader_skip : List Str := ["self", "token", "found"]
theorem sc_Reader_skip : FnScope N_Reader_skip ["self", "token"] (defScope s_Reader_skip) := ⟨rfl, rfl, rfl, by decide +kernel, rfl, by decide +kernel, by decide +kernel⟩
abbrev N_Reader_demand : List Str := ["self", "token"]
theorem sc_Reader_demand : FnScope N_Reader_demand ["self", "token"] (defScope s_Reader_demand) := ⟨rfl, rfl, rfl, by decide +kernel, rfl, by decide +kernel, by decide +kernel⟩
abbrev N_Reader_read_args : List Str := ["self", "level", "many", "args"]
theorem sc_Reader_read_args : FnScope N_Reader_read_args ["self", "level", "many"] (defScope s_Reader_read_args) := ⟨rfl, rfl, rfl, by decide +kernel, rfl, by decide +kernel, by decide +kernel⟩
abbrev N_Reader_read_part : List Str := ["self", "level", "token", "tree"]
theorem sc_Reader_read_part : FnScope N_Reader_read_part ["self", "level"] (defScope s_Reader_read_part) := ⟨rfl, rfl, rfl, by decide +kernel, rfl, by decide +kernel, by decide +kernel⟩
abbrev N_Reader_read_sign : List Str := ["self", "level", "kind"]
theorem sc_Reader_read_sign : FnScope N_Reader_read_sign ["self", "level"] (defScope s_Reader_read_sign) := ⟨rfl, rfl, rfl, by decide +kernel, rfl, by decide +kernel, by decide +kernel⟩
abbrev N_Reader_read_product : List Str := ["self", "level", "tree", "kind"]
theorem sc_Reader_read_product : FnScope N_Reader_read_product ["self", "level"] (defScope s_Reader_read_product) := ⟨rfl, rfl, rfl, by decide +kernel, rfl, by decide +kernel, by decide +kernel⟩
abbrev N_Reader_read_sum : List Str := ["self", "level", "tree", "kind"]
theorem sc_Reader_read_sum : FnScope N_Reader_read_sum ["self", "level"] (defScope s_Reader_read_sum) := ⟨rfl, rfl, rfl, by decide +kernel, rfl, by decide +kernel, by decide +kernel⟩
abbrev N_Reader_check_end : List Str := ["self"]
theorem sc_Reader_check_end : FnScope N_Reader_check_end ["self"] (defScope s_Reader_check_end) := ⟨rfl, rfl, rfl, by decide +kernel, rfl, by decide +kernel, by decide +kernel⟩
abbrev N_read_formula : List Str := ["text", "reader", "tree"]
theorem sc_read_formula : FnScope N_read_formula ["text"] (defScope s_read_formula) := ⟨rfl, rfl, rfl, by decide +kernel, rfl, by decide +kernel, by decide +kernel⟩
abbrev N_unrolled : List Str := ["tree", "steps"]
theorem sc_unrolled : FnScope N_unrolled ["tree"] (defScope s_unrolled) := ⟨rfl, rfl, rfl, by decide +kernel, rfl, by decide +kernel, by decide +kernel⟩
abbrev N_trees_in : List Str := ["tree"]
theorem sc_trees_in : FnScope N_trees_in ["tree"] (defScope s_trees_in) := ⟨rfl, rfl, rfl, by decide +kernel, rfl, by decide +kernel, by decide +kernel⟩
abbrev N_names_of : List Str := ["tree", "found", "trees", "part"]
theorem sc_names_of : FnScope N_names_of ["tree"] (defScope s_names_of) := ⟨rfl, rfl, rfl, by decide +kernel, rfl, by decide +kernel, by decide +kernel⟩
abbrev N_operand_text : List Str := ["tree", "least", "text"]
theorem sc_operand_text : FnScope N_operand_text ["tree", "least"] (defScope s_operand_text) := ⟨rfl, rfl, rfl, by decide +kernel, rfl, by decide +kernel, by decide +kernel⟩
abbrev N_single_text : List Str := ["tree", "kind", "args", "part"]
theorem sc_single_text : FnScope N_single_text ["tree"] (defScope s_single_text) := ⟨rfl, rfl, rfl, by decide +kernel, rfl, by decide +kernel, by decide +kernel⟩
abbrev N_plain_text : List Str := ["tree", "text", "rank", "first", "steps", "kind", "right"]
theorem sc_plain_text : FnScope N_plain_text ["tree"] (defScope s_plain_text) := ⟨rfl, rfl, rfl, by decide +kernel, rfl, by decide +kernel, by decide +kernel⟩
abbrev N_law_row : List Str := ["script", "row", "k", "cell", "turn", "mixed"]
theorem sc_law_row : FnScope N_law_row ["script"] (defScope s_law_row) := ⟨rfl, rfl, rfl, by decide +kernel, rfl, by decide +kernel, by decide +kernel⟩
abbrev N_law_at : List Str := ["row", "at"]
theorem sc_law_at : FnScope N_law_at ["row", "at"] (defScope s_law_at) := ⟨rfl, rfl, rfl, by decide +kernel, rfl, by decide +kernel, by decide +kernel⟩
abbrev N_law_next : List Str := ["row", "state"]
theorem sc_law_next : FnScope N_law_next ["row", "state"] (defScope s_law_next) := ⟨rfl, rfl, rfl, by decide +kernel, rfl, by decide +kernel, by decide +kernel⟩
abbrev N_law_tree : List Str := ["row", "state", "depth", "names", "number", "kind", "word", "many", "args", "k", "first"]
theorem sc_law_tree : FnScope N_law_tree ["row", "state", "depth", "names"] (defScope s_law_tree) := ⟨rfl, rfl, rfl, by decide +kernel, rfl, by decide +kernel, by decide +kernel⟩
abbrev N_law_rank : List Str := ["tree"]
theorem sc_law_rank : FnScope N_law_rank ["tree"] (defScope s_law_rank) := ⟨rfl, rfl, rfl, by decide +kernel, rfl, by decide +kernel, by decide +kernel⟩
abbrev N_law_plain26 : List Str := ["tree", "extra", "word", "sign", "rank", "part"]
theorem sc_law_plain26 : FnScope N_law_plain26 ["tree", "extra"] (defScope s_law_plain26) := ⟨rfl, rfl, rfl, by decide +kernel, rfl, by decide +kernel, by decide +kernel⟩
abbrev N_law_operand : List Str := ["tree", "least", "extra", "text"]
theorem sc_law_operand : FnScope N_law_operand ["tree", "least", "extra"] (defScope s_law_operand) := ⟨rfl, rfl, rfl, by decide +kernel, rfl, by decide +kernel, by decide +kernel⟩
abbrev N_law_levels26 : List Str := ["tree", "word", "parts", "part"]
theorem sc_law_levels26 : FnScope N_law_levels26 ["tree"] (defScope s_law_levels26) := ⟨rfl, rfl, rfl, by decide +kernel, rfl, by decide +kernel, by decide +kernel⟩
abbrev N_law_names26 : List Str := ["tree", "parts", "found", "part"]
theorem sc_law_names26 : FnScope N_law_names26 ["tree"] (defScope s_law_names26) := ⟨rfl, rfl, rfl, by decide +kernel, rfl, by decide +kernel, by decide +kernel⟩
abbrev N_law_once26 : List Str := ["names", "found", "name"]
theorem sc_law_once26 : FnScope N_law_once26 ["names"] (defScope s_law_once26) := ⟨rfl, rfl, rfl, by decide +kernel, rfl, by decide +kernel, by decide +kernel⟩
abbrev N_law : List Str := ["script", "row", "names", "tree", "text", "wide"]
theorem sc_law : FnScope N_law ["script"] (defScope s_law) := ⟨rfl, rfl, rfl, by decide +kernel, rfl, by decide +kernel, by decide +kernel⟩
theorem ok_run_of {f : Addr} {fd : FuncData} {k : Nat} (D : DefAt K mg "run_of" s_run_of ["characters", "text", "at"] f fd) (b_len : mg "len" = none) : FnOk P w K mg base CX0 (k + 1) f fd ["characters", "text", "at"] (sp_run_of K) := by
  have nd := sc_run_of.nd
  refine D.fn.ok sc_run_of (fun vs H Q E h => spF3.len h) (fun cdv A outer s H vs Q E hr h => ⟨t_run_of K, ?_, pure_run_of h⟩)
  exact (pss_cons (ps_set (i := 3) nd rfl (.inl rfl) (pv 2))
      (pss_cons (ps_while PassesOwn.never (PW.pt (pw_and (pt_cmpR op_lt (pv 3) (pe_callB call_len_str (by rfl) b_len PySem.boot_len (pa_cons (pv 1) pa_nil)) (nomark _)) (pw_and1 (pt_cmpR op_in_sign (pe_ix ix_str (pv 1) (pv 3) (fun _ _ => rfl)) (pv 0) (by rfl))))) (pss_one (ps_aug (i := 3) nd rfl (.inl rfl) pe_int ip_add)))
      (pss_one (ps_ret (pe_slice sl_str (pv 1) (po_some (pv 2)) (po_some (pv 3)))))))
theorem ok_token_at {f : Addr} {fd : FuncData} {k : Nat} (D : DefAt K mg "token_at" s_token_at ["text", "at"] f fd) {a_BadForm : Addr} (C_BadForm : ClsAt K mg "BadForm" a_BadForm) (X_BadForm : ErrC P w K mg base "BadForm" a_BadForm) (hk3 : 3 ≤ k) {f_run_of : Addr} {fd_run_of : FuncData} {k_run_of : Nat} (D_run_of : DefAt K mg "run_of" s_run_of ["characters", "text", "at"] f_run_of fd_run_of) (G_run_of : FnOk P w K mg base CX0 k_run_of f_run_of fd_run_of ["characters", "text", "at"] (sp_run_of K)) (hk_run_of : k_run_of ≤ k) (b_len : mg "len" = none) {t_LETTERS : Tok} (m_LETTERS : mg "LETTERS" = some (.str "abcdefghijklmnopqrstuvwxyzABCDEFGHIJKLMNOPQRSTUVWXYZ" t_LETTERS)) {t_DIGITS : Tok} (m_DIGITS : mg "DIGITS" = some (.str "0123456789" t_DIGITS)) {a_MARKS : Addr} (m_MARKS : mg "MARKS" = some (.ref a_MARKS)) (d_MARKS : MarksAt K a_MARKS) : FnOk P w K mg base (L2N.CX P w) (k + 1) f fd ["text", "at"] (sp_token_at K a_BadForm) := by
  have nd := sc_token_at.nd
  refine okXN D.fn sc_token_at (fun vs H Q E h => spX2.len h) (fun cdv A outer s H vs Q E hr h => ⟨t_token_at K a_BadForm a_MARKS E, ?_, pure_token_at d_MARKS h⟩)
  exact (pss_cons (ps_set (i := 2) nd rfl (.inl rfl) (pe_call G_run_of (hr.mono hk_run_of) rfl D_run_of.m D_run_of.fn.kp D_run_of.b .nil pass0 (pa_cons (pe_glob rfl m_LETTERS ⟨_, rfl⟩) (pa_cons (pv 0) (pa_cons (pv 1) pa_nil)))))
      (pss_cons (ps_if (pt_truth (pv 2) (by intro _; rfl)) (pss_one (ps_ret (pv 2))) pss_nil)
      (pss_cons (ps_set (i := 3) nd rfl (.inl rfl) (pe_call G_run_of (hr.mono hk_run_of) rfl D_run_of.m D_run_of.fn.kp D_run_of.b .nil pass0 (pa_cons (pe_glob rfl m_DIGITS ⟨_, rfl⟩) (pa_cons (pv 0) (pa_cons (pv 1) pa_nil)))))
      (pss_cons (ps_if (PW.pt (pw_and (pt_cmpR op_eq (pv 3) pe_str (nomark _)) (pw_and1 (pt_cmpR op_eq (pe_slice sl_str (pv 0) (po_some (pe_op op_add (pv 1) pe_int)) (po_some (pe_op op_add (pv 1) pe_int))) pe_str (nomark _))))) (pss_one (ps_ret pe_str)) pss_nil)
      (pss_cons (ps_if (pt_truth (pv 3) (by intro _; rfl)) (pss_one (ps_ret (pv 3))) pss_nil)
      (pss_cons (ps_for (passes_of rfl) rfl (pi_tup (pe_glob rfl m_MARKS rfl)) (pg_name (i := 4) nd rfl (.inl rfl)) (pss_one (ps_if (pt_cmpR op_eq (pe_slice sl_str (pv 0) (po_some (pv 1)) (po_some (pe_op op_add (pv 1) (pe_callB call_len_str (by rfl) b_len PySem.boot_len (pa_cons (pv 4) pa_nil))))) (pv 4) (nomark _)) (pss_one (ps_ret (pv 4))) pss_nil)))
      (pss_one (ps_errN rfl (L2N.takes_of rfl rfl rfl rfl) rfl X_BadForm (hr.mono hk3) (by rfl)))))))))
theorem ok_tokens {f : Addr} {fd : FuncData} {k : Nat} (D : DefAt K mg "tokens" s_tokens ["text"] f fd) {a_BadForm : Addr} (C_BadForm : ClsAt K mg "BadForm" a_BadForm) (X_BadForm : ErrC P w K mg base "BadForm" a_BadForm) (hk3 : 3 ≤ k) {f_token_at : Addr} {fd_token_at : FuncData} {k_token_at : Nat} (D_token_at : DefAt K mg "token_at" s_token_at ["text", "at"] f_token_at fd_token_at) (G_token_at : FnOk P w K mg base (L2N.CX P w) k_token_at f_token_at fd_token_at ["text", "at"] (sp_token_at K a_BadForm)) (hk_token_at : k_token_at ≤ k) (b_len : mg "len" = none) {t_MAX_TEXT : Tok} (m_MAX_TEXT : mg "MAX_TEXT" = some (.int 1000 t_MAX_TEXT)) : FnOk P w K mg base (L2N.CX P w) (k + 1) f fd ["text"] (sp_tokens K a_BadForm) := by
  have nd := sc_tokens.nd
  refine okXN D.fn sc_tokens (fun vs H Q E h => spX1.len h) (fun cdv A outer s H vs Q E hr h => ⟨t_tokens K a_BadForm E, ?_, pure_tokens h⟩)
  exact (pss_cons (ps_if (pt_cmpR op_gt (pe_callB call_len_str (by rfl) b_len PySem.boot_len (pa_cons (pv 0) pa_nil)) (pe_glob rfl m_MAX_TEXT ⟨_, rfl⟩) (nomark _)) (pss_one (ps_errN rfl (L2N.takes_of rfl rfl rfl rfl) rfl X_BadForm (hr.mono hk3) (by rfl))) pss_nil)
      (pss_cons (ps_set (i := 1) nd rfl (.inl rfl) (pe_lst pa_nil))
      (pss_cons (ps_set (i := 2) nd rfl (.inl rfl) pe_int)
      (pss_cons (ps_while (passes_of rfl) (pt_cmpR op_lt (pv 2) (pe_callB call_len_str (by rfl) b_len PySem.boot_len (pa_cons (pv 0) pa_nil)) (nomark _)) (pss_one (ps_if (pt_cmpR op_eq (pe_ix ix_str (pv 0) (pv 2) (fun _ _ => rfl)) pe_str (nomark _)) (pss_one (ps_aug (i := 2) nd rfl (.inl rfl) pe_int ip_add)) (pss_cons (ps_set (i := 3) nd rfl (.inl rfl) (pe_call G_token_at (hr.mono hk_token_at) rfl D_token_at.m D_token_at.fn.kp D_token_at.b .nil (L2N.passes_call (L2N.takes_of rfl rfl rfl rfl) (fun _ _ _ _ z => z)) (pa_cons (pv 0) (pa_cons (pv 2) pa_nil))))
      (pss_cons (ps_expr (pe_bm PySem.F.plainAttrs_list PySem.F.slot_list_append PySem.F.type_list_append mt_append (pv 1) (pa_cons (pv 3) pa_nil)))
      (pss_one (ps_aug (i := 2) nd rfl (.inl rfl) (pe_callB call_len_str (by rfl) b_len PySem.boot_len (pa_cons (pv 3) pa_nil)) ip_add)))))))
      (pss_one (ps_ret (pv 1)))))))
theorem ok_is_name {f : Addr} {fd : FuncData} {k : Nat} (D : DefAt K mg "is_name" s_is_name ["word"] f fd) {f_run_of : Addr} {fd_run_of : FuncData} {k_run_of : Nat} (D_run_of : DefAt K mg "run_of" s_run_of ["characters", "text", "at"] f_run_of fd_run_of) (G_run_of : FnOk P w K mg base CX0 k_run_of f_run_of fd_run_of ["characters", "text", "at"] (sp_run_of K)) (hk_run_of : k_run_of ≤ k) (b_len : mg "len" = none) {t_MAX_NAME : Tok} (m_MAX_NAME : mg "MAX_NAME" = some (.int 4 t_MAX_NAME)) {t_SMALL_LETTERS : Tok} (m_SMALL_LETTERS : mg "SMALL_LETTERS" = some (.str "abcdefghijklmnopqrstuvwxyz" t_SMALL_LETTERS)) {a_KEYWORDS : Addr} (m_KEYWORDS : mg "KEYWORDS" = some (.ref a_KEYWORDS)) (d_KEYWORDS : KwAt K a_KEYWORDS) {a_FUNCTIONS : Addr} {es_FUNCTIONS : Array DictEntry} {n_FUNCTIONS : Nat} (m_FUNCTIONS : mg "FUNCTIONS" = some (.ref a_FUNCTIONS)) (KD_FUNCTIONS : KDict K w a_FUNCTIONS es_FUNCTIONS n_FUNCTIONS) (d_FUNCTIONS : KdAt K a_FUNCTIONS functionsL) : FnOk P w K mg base CX0 (k + 1) f fd ["word"] (sp_is_name K) := by
  have nd := sc_is_name.nd
  refine D.fn.ok sc_is_name (fun vs H Q E h => spF1.len h) (fun cdv A outer s H vs Q E hr h => ⟨t_is_name K a_KEYWORDS a_FUNCTIONS, ?_, pure_is_name d_KEYWORDS h⟩)
  exact (pss_cons (ps_if (PW.pt (pw_or (pt_cmpR (op_inKD KD_FUNCTIONS d_FUNCTIONS) (pv 0) (pe_glob rfl m_FUNCTIONS rfl) (by rfl)) (pw_or1 (pt_cmpR op_in_seq (pv 0) (pe_glob rfl m_KEYWORDS rfl) (by rfl))))) (pss_one (ps_ret pe_bl)) pss_nil)
      (pss_one (ps_ret (pe_and (pe_chain op_le op_le pe_int (pe_callB call_len_str (by rfl) b_len PySem.boot_len (pa_cons (pv 0) pa_nil)) (pe_glob rfl m_MAX_NAME ⟨_, rfl⟩)) (pe_one (pe_cmpR op_eq (pe_call G_run_of (hr.mono hk_run_of) rfl D_run_of.m D_run_of.fn.kp D_run_of.b .nil pass0 (pa_cons (pe_glob rfl m_SMALL_LETTERS ⟨_, rfl⟩) (pa_cons (pv 0) (pa_cons pe_int pa_nil)))) (pv 0) (nomark _)))))))
theorem ok_is_integer {f : Addr} {fd : FuncData} {k : Nat} (D : DefAt K mg "is_integer" s_is_integer ["word"] f fd) {f_run_of : Addr} {fd_run_of : FuncData} {k_run_of : Nat} (D_run_of : DefAt K mg "run_of" s_run_of ["characters", "text", "at"] f_run_of fd_run_of) (G_run_of : FnOk P w K mg base CX0 k_run_of f_run_of fd_run_of ["characters", "text", "at"] (sp_run_of K)) (hk_run_of : k_run_of ≤ k) (b_len : mg "len" = none) {t_MAX_FIGURES : Tok} (m_MAX_FIGURES : mg "MAX_FIGURES" = some (.int 18 t_MAX_FIGURES)) {t_DIGITS : Tok} (m_DIGITS : mg "DIGITS" = some (.str "0123456789" t_DIGITS)) : FnOk P w K mg base CX0 (k + 1) f fd ["word"] (sp_is_integer K) := by
  have nd := sc_is_integer.nd
  refine D.fn.ok sc_is_integer (fun vs H Q E h => spF1.len h) (fun cdv A outer s H vs Q E hr h => ⟨t_is_integer K, ?_, pure_is_integer h⟩)
  exact (pss_cons (ps_if (PW.pt (pw_and (pt_cmpR op_eq (pe_slice sl_str (pv 0) po_none (po_some pe_int)) pe_str (nomark _)) (pw_and1 (pt_cmpR op_ne (pv 0) pe_str (nomark _))))) (pss_one (ps_ret pe_bl)) pss_nil)
      (pss_one (ps_ret (pe_and (pe_chain op_le op_le pe_int (pe_callB call_len_str (by rfl) b_len PySem.boot_len (pa_cons (pv 0) pa_nil)) (pe_glob rfl m_MAX_FIGURES ⟨_, rfl⟩)) (pe_one (pe_cmpR op_eq (pe_call G_run_of (hr.mono hk_run_of) rfl D_run_of.m D_run_of.fn.kp D_run_of.b .nil pass0 (pa_cons (pe_glob rfl m_DIGITS ⟨_, rfl⟩) (pa_cons (pv 0) (pa_cons pe_int pa_nil)))) (pv 0) (nomark _)))))))
theorem ok_deeper {f : Addr} {fd : FuncData} {k : Nat} (D : DefAt K mg "deeper" s_deeper ["level"] f fd) {a_BadForm : Addr} (C_BadForm : ClsAt K mg "BadForm" a_BadForm) (X_BadForm : ErrC P w K mg base "BadForm" a_BadForm) (hk3 : 3 ≤ k) {t_MAX_LEVELS : Tok} (m_MAX_LEVELS : mg "MAX_LEVELS" = some (.int 30 t_MAX_LEVELS)) : FnOk P w K mg base (L2N.CX P w) (k + 1) f fd ["level"] (sp_deeper K a_BadForm) := by
  have nd := sc_deeper.nd
  refine okXN D.fn sc_deeper (fun vs H Q E h => spX1.len h) (fun cdv A outer s H vs Q E hr h => ⟨t_deeper K a_BadForm E, ?_, pure_deeper h⟩)
  exact (pss_cons (ps_if (pt_cmpR op_eq (pv 0) (pe_glob rfl m_MAX_LEVELS ⟨_, rfl⟩) (nomark _)) (pss_one (ps_errN rfl (L2N.takes_of rfl rfl rfl rfl) rfl X_BadForm (hr.mono hk3) (by rfl))) pss_nil)
      (pss_one (ps_ret (pe_op op_add (pv 0) pe_int))))
theorem ok_Reader_init {f : Addr} {fd : FuncData} {k : Nat} {a_Reader : Addr} (T_Reader : Cls K a_Reader) (D : MetAt K a_Reader "__init__" "Reader.__init__" s_Reader_init ["self", "text"] f fd) {a_BadForm : Addr} (C_BadForm : ClsAt K mg "BadForm" a_BadForm) {f_tokens : Addr} {fd_tokens : FuncData} {k_tokens : Nat} (D_tokens : DefAt K mg "tokens" s_tokens ["text"] f_tokens fd_tokens) (G_tokens : FnOk P w K mg base (L2N.CX P w) k_tokens f_tokens fd_tokens ["text"] (sp_tokens K a_BadForm)) (hk_tokens : k_tokens ≤ k) : FnOk P w K mg base (L2N.CX P w) (k + 1) f fd ["self", "text"] (sp_rd_init K a_Reader a_BadForm) := by
  have nd := sc_Reader_init.nd
  refine okXN D.fn sc_Reader_init (fun vs H Q E h => rdlen_init h) (fun cdv A outer s H vs Q E hr h => ⟨t_Reader_init K a_BadForm a_Reader E, ?_, pure_Reader_init h⟩)
  exact (pss_cons (ps_fld (pv 0) (pe_call G_tokens (hr.mono hk_tokens) rfl D_tokens.m D_tokens.fn.kp D_tokens.b .nil (L2N.passes_call (L2N.takes_of rfl rfl rfl rfl) (fun _ _ _ _ z => z)) (pa_cons (pv 1) pa_nil)) rfl)
      (pss_one (ps_fld (pv 0) pe_int rfl)))
theorem ok_Reader_ahead {f : Addr} {fd : FuncData} {k : Nat} {a_Reader : Addr} (T_Reader : Cls K a_Reader) (D : MetAt K a_Reader "ahead" "Reader.ahead" s_Reader_ahead ["self"] f fd) (b_len : mg "len" = none) : FnOk P w K mg base CX0 (k + 1) f fd ["self"] (sp_ahead K a_Reader) := by
  have nd := sc_Reader_ahead.nd
  refine D.fn.ok sc_Reader_ahead (fun vs H Q E h => rdlen_ahead h) (fun cdv A outer s H vs Q E hr h => ⟨t_Reader_ahead K a_Reader, ?_, pure_Reader_ahead h⟩)
  exact (pss_one (ps_ret (pe_ifExp (pt_cmpR op_lt (pe_fld (pv 0) rfl) (pe_callB call_len_seq (by rfl) b_len PySem.boot_len (pa_cons (pe_fld (pv 0) rfl) pa_nil)) (nomark _)) (pe_ix ix_list (pe_fld (pv 0) rfl) (pe_fld (pv 0) rfl) (fun _ _ => rfl)) pe_str)))
theorem ok_Reader_take {f : Addr} {fd : FuncData} {k : Nat} {a_Reader : Addr} (T_Reader : Cls K a_Reader) (D : MetAt K a_Reader "take" "Reader.take" s_Reader_take ["self"] f fd) {f_Reader_ahead : Addr} {fd_Reader_ahead : FuncData} {k_Reader_ahead : Nat} (D_Reader_ahead : MetAt K a_Reader "ahead" "Reader.ahead" s_Reader_ahead ["self"] f_Reader_ahead fd_Reader_ahead) (G_Reader_ahead : FnOk P w K mg base CX0 k_Reader_ahead f_Reader_ahead fd_Reader_ahead ["self"] (sp_ahead K a_Reader)) (hk_Reader_ahead : k_Reader_ahead ≤ k) : FnOk P w K mg base CX0 (k + 1) f fd ["self"] (sp_take K a_Reader) := by
  have nd := sc_Reader_take.nd
  refine D.fn.ok sc_Reader_take (fun vs H Q E h => rdlen_take h) (fun cdv A outer s H vs Q E hr h => ⟨t_Reader_take K a_Reader, ?_, pure_Reader_take h⟩)
  exact (pss_cons (ps_set (i := 1) nd rfl (.inl rfl) (pe_meth0 (pv 0) T_Reader D_Reader_ahead.hm G_Reader_ahead (hr.mono hk_Reader_ahead) D_Reader_ahead.b .nil pass0))
      (pss_cons (ps_fldaug (pv 0) pe_int in_add)
      (pss_one (ps_ret (pv 1)))))
theorem ok_Reader_skip {f : Addr} {fd : FuncData} {k : Nat} {a_Reader : Addr} (T_Reader : Cls K a_Reader) (D : MetAt K a_Reader "skip" "Reader.skip" s_Reader_skip ["self", "token"] f fd) {f_Reader_ahead : Addr} {fd_Reader_ahead : FuncData} {k_Reader_ahead : Nat} (D_Reader_ahead : MetAt K a_Reader "ahead" "Reader.ahead" s_Reader_ahead ["self"] f_Reader_ahead fd_Reader_ahead) (G_Reader_ahead : FnOk P w K mg base CX0 k_Reader_ahead f_Reader_ahead fd_Reader_ahead ["self"] (sp_ahead K a_Reader)) (hk_Reader_ahead : k_Reader_ahead ≤ k) : FnOk P w K mg base CX0 (k + 1) f fd ["self", "token"] (sp_skip K a_Reader) := by
  have nd := sc_Reader_skip.nd
  refine D.fn.ok sc_Reader_skip (fun vs H Q E h => rdlen_skip h) (fun cdv A outer s H vs Q E hr h => ⟨t_Reader_skip K a_Reader, ?_, pure_Reader_skip h⟩)
  exact (pss_cons (ps_set (i := 2) nd rfl (.inl rfl) (pe_cmpR op_eq (pe_meth0 (pv 0) T_Reader D_Reader_ahead.hm G_Reader_ahead (hr.mono hk_Reader_ahead) D_Reader_ahead.b .nil pass0) (pv 1) (nomark _)))
      (pss_cons (ps_if (pt_val (pv 2)) (pss_one (ps_fldaug (pv 0) pe_int in_add)) pss_nil)
      (pss_one (ps_ret (pv 2)))))
theorem ok_Reader_demand {f : Addr} {fd : FuncData} {k : Nat} {a_Reader : Addr} (T_Reader : Cls K a_Reader) (D : MetAt K a_Reader "demand" "Reader.demand" s_Reader_demand ["self", "token"] f fd) {a_BadForm : Addr} (C_BadForm : ClsAt K mg "BadForm" a_BadForm) (X_BadForm : ErrC P w K mg base "BadForm" a_BadForm) (hk3 : 3 ≤ k) {f_Reader_skip : Addr} {fd_Reader_skip : FuncData} {k_Reader_skip : Nat} (D_Reader_skip : MetAt K a_Reader "skip" "Reader.skip" s_Reader_skip ["self", "token"] f_Reader_skip fd_Reader_skip) (G_Reader_skip : FnOk P w K mg base CX0 k_Reader_skip f_Reader_skip fd_Reader_skip ["self", "token"] (sp_skip K a_Reader)) (hk_Reader_skip : k_Reader_skip ≤ k) : FnOk P w K mg base (L2N.CX P w) (k + 1) f fd ["self", "token"] (sp_demand K a_Reader a_BadForm) := by
  have nd := sc_Reader_demand.nd
  refine okXN D.fn sc_Reader_demand (fun vs H Q E h => rdlen_demand h) (fun cdv A outer s H vs Q E hr h => ⟨t_Reader_demand K a_BadForm a_Reader E, ?_, pure_Reader_demand h⟩)
  exact (pss_one (ps_if (pt_not (pt_val (pe_meth (pv 0) T_Reader D_Reader_skip.hm G_Reader_skip (hr.mono hk_Reader_skip) D_Reader_skip.b .nil pass0 (pa_cons (pv 1) pa_nil)))) (pss_one (ps_errN rfl (L2N.takes_of rfl rfl rfl rfl) rfl X_BadForm (hr.mono hk3) (by rfl))) pss_nil))
theorem ok_Reader_read_args {f : Addr} {fd : FuncData} {k : Nat} {d : Nat} {a_Reader : Addr} (T_Reader : Cls K a_Reader) (D : MetAt K a_Reader "read_args" "Reader.read_args" s_Reader_read_args ["self", "level", "many"] f fd) {a_BadForm : Addr} (C_BadForm : ClsAt K mg "BadForm" a_BadForm) {f_Reader_demand : Addr} {fd_Reader_demand : FuncData} {k_Reader_demand : Nat} (D_Reader_demand : MetAt K a_Reader "demand" "Reader.demand" s_Reader_demand ["self", "token"] f_Reader_demand fd_Reader_demand) (G_Reader_demand : FnOk P w K mg base (L2N.CX P w) k_Reader_demand f_Reader_demand fd_Reader_demand ["self", "token"] (sp_demand K a_Reader a_BadForm)) (hk_Reader_demand : k_Reader_demand ≤ k) {f_Reader_read_sum : Addr} {fd_Reader_read_sum : FuncData} {k_Reader_read_sum : Nat} (D_Reader_read_sum : MetAt K a_Reader "read_sum" "Reader.read_sum" s_Reader_read_sum ["self", "level"] f_Reader_read_sum fd_Reader_read_sum) (G_Reader_read_sum : FnOk P w K mg base (L2N.CX P w) k_Reader_read_sum f_Reader_read_sum fd_Reader_read_sum ["self", "level"] (sp_read_sum K a_Reader a_BadForm (d + 1))) (hk_Reader_read_sum : k_Reader_read_sum ≤ k) (b_len : mg "len" = none) (b_tuple : mg "tuple" = none) : FnOk P w K mg base (L2N.CX P w) (k + 1) f fd ["self", "level", "many"] (sp_read_args K a_Reader a_BadForm (d + 1)) := by
  have nd := sc_Reader_read_args.nd
  refine okXN D.fn sc_Reader_read_args (fun vs H Q E h => rdlen_args h) (fun cdv A outer s H vs Q E hr h => ⟨t_Reader_read_args K a_BadForm a_Reader E d, ?_, pure_Reader_read_args h⟩)
  exact (pss_cons (ps_expr (pe_meth (pv 0) T_Reader D_Reader_demand.hm G_Reader_demand (hr.mono hk_Reader_demand) D_Reader_demand.b .nil (L2N.passes_call (L2N.takes_of rfl rfl rfl rfl) (fun _ _ _ _ z => z)) (pa_cons pe_str pa_nil)))
      (pss_cons (ps_set (i := 3) nd rfl (.inl rfl) (pe_lst (pa_cons (pe_meth (pv 0) T_Reader D_Reader_read_sum.hm G_Reader_read_sum (hr.mono hk_Reader_read_sum) D_Reader_read_sum.b .nil (L2N.passes_call (L2N.takes_of rfl rfl rfl rfl) (fun _ _ _ _ z => z)) (pa_cons (pv 1) pa_nil)) pa_nil)))
      (pss_cons (ps_while (passes_of rfl) (pt_cmpR op_lt (pe_callB call_len_seq (by rfl) b_len PySem.boot_len (pa_cons (pv 3) pa_nil)) (pv 2) (nomark _)) (pss_cons (ps_expr (pe_meth (pv 0) T_Reader D_Reader_demand.hm G_Reader_demand (hr.mono hk_Reader_demand) D_Reader_demand.b .nil (L2N.passes_call (L2N.takes_of rfl rfl rfl rfl) (fun _ _ _ _ z => z)) (pa_cons pe_str pa_nil)))
      (pss_one (ps_expr (pe_bm PySem.F.plainAttrs_list PySem.F.slot_list_append PySem.F.type_list_append mt_append (pv 3) (pa_cons (pe_meth (pv 0) T_Reader D_Reader_read_sum.hm G_Reader_read_sum (hr.mono hk_Reader_read_sum) D_Reader_read_sum.b .nil (L2N.passes_call (L2N.takes_of rfl rfl rfl rfl) (fun _ _ _ _ z => z)) (pa_cons (pv 1) pa_nil)) pa_nil))))))
      (pss_cons (ps_expr (pe_meth (pv 0) T_Reader D_Reader_demand.hm G_Reader_demand (hr.mono hk_Reader_demand) D_Reader_demand.b .nil (L2N.passes_call (L2N.takes_of rfl rfl rfl rfl) (fun _ _ _ _ z => z)) (pa_cons pe_str pa_nil)))
      (pss_one (ps_ret (pe_tupleOf rfl b_tuple (pv 3))))))))
theorem ok_Reader_read_part {f : Addr} {fd : FuncData} {k : Nat} {d : Nat} {a_Reader : Addr} (T_Reader : Cls K a_Reader) (D : MetAt K a_Reader "read_part" "Reader.read_part" s_Reader_read_part ["self", "level"] f fd) {a_BadForm : Addr} (C_BadForm : ClsAt K mg "BadForm" a_BadForm) (X_BadForm : ErrC P w K mg base "BadForm" a_BadForm) (hk3 : 3 ≤ k) {f_Reader_take : Addr} {fd_Reader_take : FuncData} {k_Reader_take : Nat} (D_Reader_take : MetAt K a_Reader "take" "Reader.take" s_Reader_take ["self"] f_Reader_take fd_Reader_take) (G_Reader_take : FnOk P w K mg base CX0 k_Reader_take f_Reader_take fd_Reader_take ["self"] (sp_take K a_Reader)) (hk_Reader_take : k_Reader_take ≤ k) {f_deeper : Addr} {fd_deeper : FuncData} {k_deeper : Nat} (D_deeper : DefAt K mg "deeper" s_deeper ["level"] f_deeper fd_deeper) (G_deeper : FnOk P w K mg base (L2N.CX P w) k_deeper f_deeper fd_deeper ["level"] (sp_deeper K a_BadForm)) (hk_deeper : k_deeper ≤ k) {f_Reader_read_sum : Addr} {fd_Reader_read_sum : FuncData} {k_Reader_read_sum : Nat} (D_Reader_read_sum : MetAt K a_Reader "read_sum" "Reader.read_sum" s_Reader_read_sum ["self", "level"] f_Reader_read_sum fd_Reader_read_sum) (G_Reader_read_sum : FnOk P w K mg base (L2N.CX P w) k_Reader_read_sum f_Reader_read_sum fd_Reader_read_sum ["self", "level"] (sp_read_sum K a_Reader a_BadForm d)) (hk_Reader_read_sum : k_Reader_read_sum ≤ k) {f_Reader_demand : Addr} {fd_Reader_demand : FuncData} {k_Reader_demand : Nat} (D_Reader_demand : MetAt K a_Reader "demand" "Reader.demand" s_Reader_demand ["self", "token"] f_Reader_demand fd_Reader_demand) (G_Reader_demand : FnOk P w K mg base (L2N.CX P w) k_Reader_demand f_Reader_demand fd_Reader_demand ["self", "token"] (sp_demand K a_Reader a_BadForm)) (hk_Reader_demand : k_Reader_demand ≤ k) {f_Reader_read_args : Addr} {fd_Reader_read_args : FuncData} {k_Reader_read_args : Nat} (D_Reader_read_args : MetAt K a_Reader "read_args" "Reader.read_args" s_Reader_read_args ["self", "level", "many"] f_Reader_read_args fd_Reader_read_args) (G_Reader_read_args : FnOk P w K mg base (L2N.CX P w) k_Reader_read_args f_Reader_read_args fd_Reader_read_args ["self", "level", "many"] (sp_read_args K a_Reader a_BadForm d)) (hk_Reader_read_args : k_Reader_read_args ≤ k) {f_is_name : Addr} {fd_is_name : FuncData} {k_is_name : Nat} (D_is_name : DefAt K mg "is_name" s_is_name ["word"] f_is_name fd_is_name) (G_is_name : FnOk P w K mg base CX0 k_is_name f_is_name fd_is_name ["word"] (sp_is_name K)) (hk_is_name : k_is_name ≤ k) {f_is_integer : Addr} {fd_is_integer : FuncData} {k_is_integer : Nat} (D_is_integer : DefAt K mg "is_integer" s_is_integer ["word"] f_is_integer fd_is_integer) (G_is_integer : FnOk P w K mg base CX0 k_is_integer f_is_integer fd_is_integer ["word"] (sp_is_integer K)) (hk_is_integer : k_is_integer ≤ k) (b_int : mg "int" = none) {a_FUNCTIONS : Addr} {es_FUNCTIONS : Array DictEntry} {n_FUNCTIONS : Nat} (m_FUNCTIONS : mg "FUNCTIONS" = some (.ref a_FUNCTIONS)) (KD_FUNCTIONS : KDict K w a_FUNCTIONS es_FUNCTIONS n_FUNCTIONS) (d_FUNCTIONS : KdAt K a_FUNCTIONS functionsL) : FnOk P w K mg base (L2N.CX P w) (k + 1) f fd ["self", "level"] (sp_read_part K a_Reader a_BadForm (d + 1)) := by
  have nd := sc_Reader_read_part.nd
  refine okXN D.fn sc_Reader_read_part (fun vs H Q E h => rdlen_lv h) (fun cdv A outer s H vs Q E hr h => ⟨t_Reader_read_part K a_BadForm a_Reader a_FUNCTIONS E d, ?_, pure_Reader_read_part h⟩)
  exact (pss_cons (ps_set (i := 2) nd rfl (.inl rfl) (pe_meth0 (pv 0) T_Reader D_Reader_take.hm G_Reader_take (hr.mono hk_Reader_take) D_Reader_take.b .nil pass0))
      (pss_cons (ps_if (pt_cmpR op_eq (pv 2) pe_str (nomark _)) (pss_cons (ps_set (i := 3) nd rfl (.inl rfl) (pe_meth (pv 0) T_Reader D_Reader_read_sum.hm G_Reader_read_sum (hr.mono hk_Reader_read_sum) D_Reader_read_sum.b .nil (L2N.passes_call (L2N.takes_of rfl rfl rfl rfl) (fun _ _ _ _ z => z)) (pa_cons (pe_call G_deeper (hr.mono hk_deeper) rfl D_deeper.m D_deeper.fn.kp D_deeper.b .nil (L2N.passes_call (L2N.takes_of rfl rfl rfl rfl) (fun _ _ _ _ z => z)) (pa_cons (pv 1) pa_nil)) pa_nil)))
      (pss_cons (ps_expr (pe_meth (pv 0) T_Reader D_Reader_demand.hm G_Reader_demand (hr.mono hk_Reader_demand) D_Reader_demand.b .nil (L2N.passes_call (L2N.takes_of rfl rfl rfl rfl) (fun _ _ _ _ z => z)) (pa_cons pe_str pa_nil)))
      (pss_one (ps_ret (pv 3))))) pss_nil)
      (pss_cons (ps_if (pt_cmpR (op_inKD KD_FUNCTIONS d_FUNCTIONS) (pv 2) (pe_glob rfl m_FUNCTIONS rfl) (by rfl)) (pss_one (ps_ret (pe_tup (pa_cons pe_str (pa_cons (pv 2) (pa_cons (pe_meth (pv 0) T_Reader D_Reader_read_args.hm G_Reader_read_args (hr.mono hk_Reader_read_args) D_Reader_read_args.b .nil (L2N.passes_call (L2N.takes_of rfl rfl rfl rfl) (fun _ _ _ _ z => z)) (pa_cons (pe_call G_deeper (hr.mono hk_deeper) rfl D_deeper.m D_deeper.fn.kp D_deeper.b .nil (L2N.passes_call (L2N.takes_of rfl rfl rfl rfl) (fun _ _ _ _ z => z)) (pa_cons (pv 1) pa_nil)) (pa_cons (pe_ix (ix_KD KD_FUNCTIONS d_FUNCTIONS) (pe_glob rfl m_FUNCTIONS rfl) (pv 2) (fun _ _ => rfl)) pa_nil))) pa_nil)))))) pss_nil)
      (pss_cons (ps_if (pt_val (pe_call G_is_name (hr.mono hk_is_name) rfl D_is_name.m D_is_name.fn.kp D_is_name.b .nil pass0 (pa_cons (pv 2) pa_nil))) (pss_one (ps_ret (pe_tup (pa_cons pe_str (pa_cons (pv 2) pa_nil))))) pss_nil)
      (pss_cons (ps_if (pt_val (pe_call G_is_integer (hr.mono hk_is_integer) rfl D_is_integer.m D_is_integer.fn.kp D_is_integer.b .nil pass0 (pa_cons (pv 2) pa_nil))) (pss_one (ps_ret (pe_tup (pa_cons pe_str (pa_cons (pe_callTy call_int_str (by rfl) b_int (by decide +kernel) (pa_cons (pv 2) pa_nil)) pa_nil))))) pss_nil)
      (pss_one (ps_errN rfl (L2N.takes_of rfl rfl rfl rfl) rfl X_BadForm (hr.mono hk3) (by rfl))))))))
theorem ok_Reader_read_sign {f : Addr} {fd : FuncData} {k : Nat} {d : Nat} {a_Reader : Addr} (T_Reader : Cls K a_Reader) (D : MetAt K a_Reader "read_sign" "Reader.read_sign" s_Reader_read_sign ["self", "level"] f fd) {a_BadForm : Addr} (C_BadForm : ClsAt K mg "BadForm" a_BadForm) {f_Reader_ahead : Addr} {fd_Reader_ahead : FuncData} {k_Reader_ahead : Nat} (D_Reader_ahead : MetAt K a_Reader "ahead" "Reader.ahead" s_Reader_ahead ["self"] f_Reader_ahead fd_Reader_ahead) (G_Reader_ahead : FnOk P w K mg base CX0 k_Reader_ahead f_Reader_ahead fd_Reader_ahead ["self"] (sp_ahead K a_Reader)) (hk_Reader_ahead : k_Reader_ahead ≤ k) {f_Reader_take : Addr} {fd_Reader_take : FuncData} {k_Reader_take : Nat} (D_Reader_take : MetAt K a_Reader "take" "Reader.take" s_Reader_take ["self"] f_Reader_take fd_Reader_take) (G_Reader_take : FnOk P w K mg base CX0 k_Reader_take f_Reader_take fd_Reader_take ["self"] (sp_take K a_Reader)) (hk_Reader_take : k_Reader_take ≤ k) {f_deeper : Addr} {fd_deeper : FuncData} {k_deeper : Nat} (D_deeper : DefAt K mg "deeper" s_deeper ["level"] f_deeper fd_deeper) (G_deeper : FnOk P w K mg base (L2N.CX P w) k_deeper f_deeper fd_deeper ["level"] (sp_deeper K a_BadForm)) (hk_deeper : k_deeper ≤ k) {f_Reader_read_part : Addr} {fd_Reader_read_part : FuncData} {k_Reader_read_part : Nat} (D_Reader_read_part : MetAt K a_Reader "read_part" "Reader.read_part" s_Reader_read_part ["self", "level"] f_Reader_read_part fd_Reader_read_part) (G_Reader_read_part : FnOk P w K mg base (L2N.CX P w) k_Reader_read_part f_Reader_read_part fd_Reader_read_part ["self", "level"] (sp_read_part K a_Reader a_BadForm (d + 1))) (hk_Reader_read_part : k_Reader_read_part ≤ k) {a_SIGNS : Addr} {es_SIGNS : Array DictEntry} {n_SIGNS : Nat} (m_SIGNS : mg "SIGNS" = some (.ref a_SIGNS)) (KD_SIGNS : KDict K w a_SIGNS es_SIGNS n_SIGNS) (d_SIGNS : KdAt K a_SIGNS signsL) (G_Reader_read_sign : FnOk P w K mg base (L2N.CX P w) k f fd ["self", "level"] (sp_read_sign K a_Reader a_BadForm d)) : FnOk P w K mg base (L2N.CX P w) (k + 1) f fd ["self", "level"] (sp_read_sign K a_Reader a_BadForm (d + 1)) := by
  have D_Reader_read_sign := D
  have nd := sc_Reader_read_sign.nd
  refine okXN D.fn sc_Reader_read_sign (fun vs H Q E h => rdlen_lv h) (fun cdv A outer s H vs Q E hr h => ⟨t_Reader_read_sign K a_BadForm a_Reader a_SIGNS E d, ?_, pure_Reader_read_sign h⟩)
  exact (pss_cons (ps_if (pt_cmpR (op_inKD KD_SIGNS d_SIGNS) (pe_meth0 (pv 0) T_Reader D_Reader_ahead.hm G_Reader_ahead (hr.mono hk_Reader_ahead) D_Reader_ahead.b .nil pass0) (pe_glob rfl m_SIGNS rfl) (by rfl)) (pss_cons (ps_set (i := 2) nd rfl (.inl rfl) (pe_ix (ix_KD KD_SIGNS d_SIGNS) (pe_glob rfl m_SIGNS rfl) (pe_meth0 (pv 0) T_Reader D_Reader_take.hm G_Reader_take (hr.mono hk_Reader_take) D_Reader_take.b .nil pass0) (fun _ _ => rfl)))
      (pss_one (ps_ret (pe_tup (pa_cons (pv 2) (pa_cons (pe_meth (pv 0) T_Reader D_Reader_read_sign.hm G_Reader_read_sign hr D_Reader_read_sign.b .nil (L2N.passes_call (L2N.takes_of rfl rfl rfl rfl) (fun _ _ _ _ z => z)) (pa_cons (pe_call G_deeper (hr.mono hk_deeper) rfl D_deeper.m D_deeper.fn.kp D_deeper.b .nil (L2N.passes_call (L2N.takes_of rfl rfl rfl rfl) (fun _ _ _ _ z => z)) (pa_cons (pv 1) pa_nil)) pa_nil)) pa_nil)))))) pss_nil)
      (pss_one (ps_ret (pe_meth (pv 0) T_Reader D_Reader_read_part.hm G_Reader_read_part (hr.mono hk_Reader_read_part) D_Reader_read_part.b .nil (L2N.passes_call (L2N.takes_of rfl rfl rfl rfl) (fun _ _ _ _ z => z)) (pa_cons (pv 1) pa_nil)))))
theorem ok_Reader_read_product {f : Addr} {fd : FuncData} {k : Nat} {d : Nat} {a_Reader : Addr} (T_Reader : Cls K a_Reader) (D : MetAt K a_Reader "read_product" "Reader.read_product" s_Reader_read_product ["self", "level"] f fd) {a_BadForm : Addr} (C_BadForm : ClsAt K mg "BadForm" a_BadForm) {f_Reader_read_sign : Addr} {fd_Reader_read_sign : FuncData} {k_Reader_read_sign : Nat} (D_Reader_read_sign : MetAt K a_Reader "read_sign" "Reader.read_sign" s_Reader_read_sign ["self", "level"] f_Reader_read_sign fd_Reader_read_sign) (G_Reader_read_sign : FnOk P w K mg base (L2N.CX P w) k_Reader_read_sign f_Reader_read_sign fd_Reader_read_sign ["self", "level"] (sp_read_sign K a_Reader a_BadForm (d + 1))) (hk_Reader_read_sign : k_Reader_read_sign ≤ k) {f_Reader_ahead : Addr} {fd_Reader_ahead : FuncData} {k_Reader_ahead : Nat} (D_Reader_ahead : MetAt K a_Reader "ahead" "Reader.ahead" s_Reader_ahead ["self"] f_Reader_ahead fd_Reader_ahead) (G_Reader_ahead : FnOk P w K mg base CX0 k_Reader_ahead f_Reader_ahead fd_Reader_ahead ["self"] (sp_ahead K a_Reader)) (hk_Reader_ahead : k_Reader_ahead ≤ k) {f_Reader_take : Addr} {fd_Reader_take : FuncData} {k_Reader_take : Nat} (D_Reader_take : MetAt K a_Reader "take" "Reader.take" s_Reader_take ["self"] f_Reader_take fd_Reader_take) (G_Reader_take : FnOk P w K mg base CX0 k_Reader_take f_Reader_take fd_Reader_take ["self"] (sp_take K a_Reader)) (hk_Reader_take : k_Reader_take ≤ k) {a_PRODUCTS : Addr} {es_PRODUCTS : Array DictEntry} {n_PRODUCTS : Nat} (m_PRODUCTS : mg "PRODUCTS" = some (.ref a_PRODUCTS)) (KD_PRODUCTS : KDict K w a_PRODUCTS es_PRODUCTS n_PRODUCTS) (d_PRODUCTS : KdAt K a_PRODUCTS productsL) : FnOk P w K mg base (L2N.CX P w) (k + 1) f fd ["self", "level"] (sp_read_product K a_Reader a_BadForm (d + 1)) := by
  have nd := sc_Reader_read_product.nd
  refine okXN D.fn sc_Reader_read_product (fun vs H Q E h => rdlen_lv h) (fun cdv A outer s H vs Q E hr h => ⟨t_Reader_read_product K a_BadForm a_Reader a_PRODUCTS E d, ?_, pure_Reader_read_product h⟩)
  exact (pss_cons (ps_set (i := 2) nd rfl (.inl rfl) (pe_meth (pv 0) T_Reader D_Reader_read_sign.hm G_Reader_read_sign (hr.mono hk_Reader_read_sign) D_Reader_read_sign.b .nil (L2N.passes_call (L2N.takes_of rfl rfl rfl rfl) (fun _ _ _ _ z => z)) (pa_cons (pv 1) pa_nil)))
      (pss_cons (ps_while (passes_of rfl) (pt_cmpR (op_inKD KD_PRODUCTS d_PRODUCTS) (pe_meth0 (pv 0) T_Reader D_Reader_ahead.hm G_Reader_ahead (hr.mono hk_Reader_ahead) D_Reader_ahead.b .nil pass0) (pe_glob rfl m_PRODUCTS rfl) (by rfl)) (pss_cons (ps_set (i := 3) nd rfl (.inl rfl) (pe_ix (ix_KD KD_PRODUCTS d_PRODUCTS) (pe_glob rfl m_PRODUCTS rfl) (pe_meth0 (pv 0) T_Reader D_Reader_take.hm G_Reader_take (hr.mono hk_Reader_take) D_Reader_take.b .nil pass0) (fun _ _ => rfl)))
      (pss_one (ps_set (i := 2) nd rfl (.inl rfl) (pe_tup (pa_cons (pv 3) (pa_cons (pv 2) (pa_cons (pe_meth (pv 0) T_Reader D_Reader_read_sign.hm G_Reader_read_sign (hr.mono hk_Reader_read_sign) D_Reader_read_sign.b .nil (L2N.passes_call (L2N.takes_of rfl rfl rfl rfl) (fun _ _ _ _ z => z)) (pa_cons (pv 1) pa_nil)) pa_nil))))))))
      (pss_one (ps_ret (pv 2)))))
theorem ok_Reader_read_sum {f : Addr} {fd : FuncData} {k : Nat} {d : Nat} {a_Reader : Addr} (T_Reader : Cls K a_Reader) (D : MetAt K a_Reader "read_sum" "Reader.read_sum" s_Reader_read_sum ["self", "level"] f fd) {a_BadForm : Addr} (C_BadForm : ClsAt K mg "BadForm" a_BadForm) {f_Reader_read_product : Addr} {fd_Reader_read_product : FuncData} {k_Reader_read_product : Nat} (D_Reader_read_product : MetAt K a_Reader "read_product" "Reader.read_product" s_Reader_read_product ["self", "level"] f_Reader_read_product fd_Reader_read_product) (G_Reader_read_product : FnOk P w K mg base (L2N.CX P w) k_Reader_read_product f_Reader_read_product fd_Reader_read_product ["self", "level"] (sp_read_product K a_Reader a_BadForm (d + 1))) (hk_Reader_read_product : k_Reader_read_product ≤ k) {f_Reader_ahead : Addr} {fd_Reader_ahead : FuncData} {k_Reader_ahead : Nat} (D_Reader_ahead : MetAt K a_Reader "ahead" "Reader.ahead" s_Reader_ahead ["self"] f_Reader_ahead fd_Reader_ahead) (G_Reader_ahead : FnOk P w K mg base CX0 k_Reader_ahead f_Reader_ahead fd_Reader_ahead ["self"] (sp_ahead K a_Reader)) (hk_Reader_ahead : k_Reader_ahead ≤ k) {f_Reader_take : Addr} {fd_Reader_take : FuncData} {k_Reader_take : Nat} (D_Reader_take : MetAt K a_Reader "take" "Reader.take" s_Reader_take ["self"] f_Reader_take fd_Reader_take) (G_Reader_take : FnOk P w K mg base CX0 k_Reader_take f_Reader_take fd_Reader_take ["self"] (sp_take K a_Reader)) (hk_Reader_take : k_Reader_take ≤ k) {a_SUMS : Addr} {es_SUMS : Array DictEntry} {n_SUMS : Nat} (m_SUMS : mg "SUMS" = some (.ref a_SUMS)) (KD_SUMS : KDict K w a_SUMS es_SUMS n_SUMS) (d_SUMS : KdAt K a_SUMS sumsL) : FnOk P w K mg base (L2N.CX P w) (k + 1) f fd ["self", "level"] (sp_read_sum K a_Reader a_BadForm (d + 1)) := by
  have nd := sc_Reader_read_sum.nd
  refine okXN D.fn sc_Reader_read_sum (fun vs H Q E h => rdlen_lv h) (fun cdv A outer s H vs Q E hr h => ⟨t_Reader_read_sum K a_BadForm a_Reader a_SUMS E d, ?_, pure_Reader_read_sum h⟩)
  exact (pss_cons (ps_set (i := 2) nd rfl (.inl rfl) (pe_meth (pv 0) T_Reader D_Reader_read_product.hm G_Reader_read_product (hr.mono hk_Reader_read_product) D_Reader_read_product.b .nil (L2N.passes_call (L2N.takes_of rfl rfl rfl rfl) (fun _ _ _ _ z => z)) (pa_cons (pv 1) pa_nil)))
      (pss_cons (ps_while (passes_of rfl) (pt_cmpR (op_inKD KD_SUMS d_SUMS) (pe_meth0 (pv 0) T_Reader D_Reader_ahead.hm G_Reader_ahead (hr.mono hk_Reader_ahead) D_Reader_ahead.b .nil pass0) (pe_glob rfl m_SUMS rfl) (by rfl)) (pss_cons (ps_set (i := 3) nd rfl (.inl rfl) (pe_ix (ix_KD KD_SUMS d_SUMS) (pe_glob rfl m_SUMS rfl) (pe_meth0 (pv 0) T_Reader D_Reader_take.hm G_Reader_take (hr.mono hk_Reader_take) D_Reader_take.b .nil pass0) (fun _ _ => rfl)))
      (pss_one (ps_set (i := 2) nd rfl (.inl rfl) (pe_tup (pa_cons (pv 3) (pa_cons (pv 2) (pa_cons (pe_meth (pv 0) T_Reader D_Reader_read_product.hm G_Reader_read_product (hr.mono hk_Reader_read_product) D_Reader_read_product.b .nil (L2N.passes_call (L2N.takes_of rfl rfl rfl rfl) (fun _ _ _ _ z => z)) (pa_cons (pv 1) pa_nil)) pa_nil))))))))
      (pss_one (ps_ret (pv 2)))))
theorem ok_Reader_check_end {f : Addr} {fd : FuncData} {k : Nat} {a_Reader : Addr} (T_Reader : Cls K a_Reader) (D : MetAt K a_Reader "check_end" "Reader.check_end" s_Reader_check_end ["self"] f fd) {a_BadForm : Addr} (C_BadForm : ClsAt K mg "BadForm" a_BadForm) (X_BadForm : ErrC P w K mg base "BadForm" a_BadForm) (hk3 : 3 ≤ k) {f_Reader_ahead : Addr} {fd_Reader_ahead : FuncData} {k_Reader_ahead : Nat} (D_Reader_ahead : MetAt K a_Reader "ahead" "Reader.ahead" s_Reader_ahead ["self"] f_Reader_ahead fd_Reader_ahead) (G_Reader_ahead : FnOk P w K mg base CX0 k_Reader_ahead f_Reader_ahead fd_Reader_ahead ["self"] (sp_ahead K a_Reader)) (hk_Reader_ahead : k_Reader_ahead ≤ k) : FnOk P w K mg base (L2N.CX P w) (k + 1) f fd ["self"] (sp_check_end K a_Reader a_BadForm) := by
  have nd := sc_Reader_check_end.nd
  refine okXN D.fn sc_Reader_check_end (fun vs H Q E h => rdlen_end h) (fun cdv A outer s H vs Q E hr h => ⟨t_Reader_check_end K a_BadForm a_Reader E, ?_, pure_Reader_check_end h⟩)
  exact (pss_one (ps_if (pt_cmpR op_ne (pe_meth0 (pv 0) T_Reader D_Reader_ahead.hm G_Reader_ahead (hr.mono hk_Reader_ahead) D_Reader_ahead.b .nil pass0) pe_str (nomark _)) (pss_one (ps_errN rfl (L2N.takes_of rfl rfl rfl rfl) rfl X_BadForm (hr.mono hk3) (by rfl))) pss_nil))
theorem ok_read_formula {f : Addr} {fd : FuncData} {k : Nat} {a_Reader : Addr} (T_Reader : Cls K a_Reader) (D : DefAt K mg "read_formula" s_read_formula ["text"] f fd) {a_BadForm : Addr} (C_BadForm : ClsAt K mg "BadForm" a_BadForm) {f_Reader___init__ : Addr} {fd_Reader___init__ : FuncData} {k_Reader___init__ : Nat} (D_Reader___init__ : MetAt K a_Reader "__init__" "Reader.__init__" s_Reader_init ["self", "text"] f_Reader___init__ fd_Reader___init__) (G_Reader___init__ : FnOk P w K mg base (L2N.CX P w) k_Reader___init__ f_Reader___init__ fd_Reader___init__ ["self", "text"] (sp_rd_init K a_Reader a_BadForm)) (hk_Reader___init__ : k_Reader___init__ + 1 ≤ k) {f_Reader_read_sum : Addr} {fd_Reader_read_sum : FuncData} {k_Reader_read_sum : Nat} (D_Reader_read_sum : MetAt K a_Reader "read_sum" "Reader.read_sum" s_Reader_read_sum ["self", "level"] f_Reader_read_sum fd_Reader_read_sum) (G_Reader_read_sum : FnOk P w K mg base (L2N.CX P w) k_Reader_read_sum f_Reader_read_sum fd_Reader_read_sum ["self", "level"] (sp_read_sum K a_Reader a_BadForm 31)) (hk_Reader_read_sum : k_Reader_read_sum ≤ k) {f_Reader_check_end : Addr} {fd_Reader_check_end : FuncData} {k_Reader_check_end : Nat} (D_Reader_check_end : MetAt K a_Reader "check_end" "Reader.check_end" s_Reader_check_end ["self"] f_Reader_check_end fd_Reader_check_end) (G_Reader_check_end : FnOk P w K mg base (L2N.CX P w) k_Reader_check_end f_Reader_check_end fd_Reader_check_end ["self"] (sp_check_end K a_Reader a_BadForm)) (hk_Reader_check_end : k_Reader_check_end ≤ k) (MK_Reader : Mk K a_Reader f_Reader___init__) (mC_Reader : mg "Reader" = some (.ref a_Reader)) (rc : RdC K a_Reader) : FnOk P w K mg base (L2N.CX P w) (k + 1) f fd ["text"] (sp_read_formula K a_BadForm) := by
  have nd := sc_read_formula.nd
  refine okXN D.fn sc_read_formula (fun vs H Q E h => spX1.len h) (fun cdv A outer s H vs Q E hr h => ⟨t_read_formula K a_BadForm a_Reader E, ?_, pure_read_formula rc h⟩)
  exact (pss_cons (ps_set (i := 1) nd rfl (.inl rfl) (pe_make MK_Reader G_Reader___init__ (hr.mono hk_Reader___init__) rfl mC_Reader D_Reader___init__.b .nil (L2N.passes_call (L2N.takes_of rfl rfl rfl rfl) (fun _ _ _ _ z => z)) (pa_cons (pv 0) pa_nil)))
      (pss_cons (ps_set (i := 2) nd rfl (.inl rfl) (pe_meth (pv 1) T_Reader D_Reader_read_sum.hm G_Reader_read_sum (hr.mono hk_Reader_read_sum) D_Reader_read_sum.b .nil (L2N.passes_call (L2N.takes_of rfl rfl rfl rfl) (fun _ _ _ _ z => z)) (pa_cons pe_int pa_nil)))
      (pss_cons (ps_expr (pe_meth0 (pv 1) T_Reader D_Reader_check_end.hm G_Reader_check_end (hr.mono hk_Reader_check_end) D_Reader_check_end.b .nil (L2N.passes_call (L2N.takes_of rfl rfl rfl rfl) (fun _ _ _ _ z => z))))
      (pss_one (ps_ret (pv 2))))))
theorem ok_unrolled {f : Addr} {fd : FuncData} {k : Nat} (D : DefAt K mg "unrolled" s_unrolled ["tree"] f fd) {a_OPERATIONS : Addr} (m_OPERATIONS : mg "OPERATIONS" = some (.ref a_OPERATIONS)) (d_OPERATIONS : OpsAt K a_OPERATIONS) : FnOk P w K mg base CX0 (k + 1) f fd ["tree"] (sp_unrolled K) := by
  have nd := sc_unrolled.nd
  refine D.fn.ok sc_unrolled (fun vs H Q E h => spF1.len h) (fun cdv A outer s H vs Q E hr h => ⟨t_unrolled K a_OPERATIONS, ?_, pure_unrolled d_OPERATIONS h⟩)
  exact (pss_cons (ps_set (i := 1) nd rfl (.inl rfl) (pe_lst pa_nil))
      (pss_cons (ps_while PassesOwn.never (pt_cmpR op_in_seq (pe_ix ix_tup (pv 0) pe_int (fun _ _ => rfl)) (pe_glob rfl m_OPERATIONS rfl) (by rfl)) (pss_cons (ps_expr (pe_bm PySem.F.plainAttrs_list PySem.F.slot_list_append PySem.F.type_list_append mt_append (pv 1) (pa_cons (pe_tup (pa_cons (pe_ix ix_tup (pv 0) pe_int (fun _ _ => rfl)) (pa_cons (pe_ix ix_tup (pv 0) pe_int (fun _ _ => rfl)) pa_nil))) pa_nil)))
      (pss_one (ps_set (i := 0) nd rfl (.inl rfl) (pe_ix ix_tup (pv 0) pe_int (fun _ _ => rfl))))))
      (pss_one (ps_ret (pe_tup (pa_cons (pv 0) (pa_cons (pe_revL (pv 1)) pa_nil)))))))
theorem ok_trees_in {f : Addr} {fd : FuncData} {k : Nat} (D : DefAt K mg "trees_in" s_trees_in ["tree"] f fd) : FnOk P w K mg base CX0 (k + 1) f fd ["tree"] (sp_trees_in K) := by
  have nd := sc_trees_in.nd
  refine D.fn.ok sc_trees_in (fun vs H Q E h => spF1.len h) (fun cdv A outer s H vs Q E hr h => ⟨t_trees_in K, ?_, pure_trees_in h⟩)
  exact (pss_cons (ps_if (pt_cmpR op_in_seq (pe_ix ix_tup (pv 0) pe_int (fun _ _ => rfl)) (pe_tup (pa_cons pe_str (pa_cons pe_str pa_nil))) (by rfl)) (pss_one (ps_ret (pe_tup pa_nil))) pss_nil)
      (pss_one (ps_ret (pe_ifExp (pt_cmpR op_eq (pe_ix ix_tup (pv 0) pe_int (fun _ _ => rfl)) pe_str (nomark _)) (pe_ix ix_tup (pv 0) pe_int (fun _ _ => rfl)) (pe_slice sl_tupA (pv 0) (po_some pe_int) po_none)))))
theorem ok_names_of {f : Addr} {fd : FuncData} {k : Nat} (D : DefAt K mg "names_of" s_names_of ["tree"] f fd) {f_trees_in : Addr} {fd_trees_in : FuncData} {k_trees_in : Nat} (D_trees_in : DefAt K mg "trees_in" s_trees_in ["tree"] f_trees_in fd_trees_in) (G_trees_in : FnOk P w K mg base CX0 k_trees_in f_trees_in fd_trees_in ["tree"] (sp_trees_in K)) (hk_trees_in : k_trees_in ≤ k) (b_set : mg "set" = none) (b_sorted : mg "sorted" = none) : FnOk P w K mg base CX0 (k + 1) f fd ["tree"] (sp_names_of K) := by
  have nd := sc_names_of.nd
  refine D.fn.ok sc_names_of (fun vs H Q E h => spF1.len h) (fun cdv A outer s H vs Q E hr h => ⟨t_names_of K P w, ?_, pure_names_of h⟩)
  exact (pss_cons (ps_set (i := 1) nd rfl (.inl rfl) (pe_callTy0 cr_setT0 (by rfl) b_set (by decide +kernel)))
      (pss_cons (ps_set (i := 2) nd rfl (.inl rfl) (pe_lst (pa_cons (pv 0) pa_nil)))
      (pss_cons (ps_while PassesOwn.never (pt_truth (pv 2) (by intro _; rfl)) (pss_cons (ps_set (i := 3) nd rfl (.inl rfl) (pe_bm0 PySem.F.plainAttrs_list PySem.F.slot_list_pop PySem.F.type_list_pop mt_pop (pv 2)))
      (pss_cons (ps_if (pt_cmpR op_eq (pe_ix ix_tup (pv 3) pe_int (fun _ _ => rfl)) pe_str (nomark _)) (pss_one (ps_expr (pe_addT (pv 1) (pe_ix ix_tup (pv 3) pe_int (fun _ _ => rfl)) ⟨by rfl, by rfl, by rfl, by rfl⟩))) pss_nil)
      (pss_one (ps_expr (pe_bm PySem.F.plainAttrs_list PySem.F.slot_list_extend PySem.F.type_list_extend mt_extendT (pv 2) (pa_cons (pe_call G_trees_in (hr.mono hk_trees_in) rfl D_trees_in.m D_trees_in.fn.kp D_trees_in.b .nil pass0 (pa_cons (pv 3) pa_nil)) pa_nil)))))))
      (pss_one (ps_ret (pe_callB (cr_sortT rfl) (by rfl) b_sorted (by decide +kernel) (pa_cons (pv 1) pa_nil)))))))
theorem ok_operand_text {f : Addr} {fd : FuncData} {k : Nat} {d : Nat} (D : DefAt K mg "operand_text" s_operand_text ["tree", "least"] f fd) {f_plain_text : Addr} {fd_plain_text : FuncData} {k_plain_text : Nat} (D_plain_text : DefAt K mg "plain_text" s_plain_text ["tree"] f_plain_text fd_plain_text) (G_plain_text : FnOk P w K mg base CX0 k_plain_text f_plain_text fd_plain_text ["tree"] (sp_plain_text K d)) (hk_plain_text : k_plain_text ≤ k) {t_SINGLE : Tok} (m_SINGLE : mg "SINGLE" = some (.int 3 t_SINGLE)) {a_RANKS : Addr} {es_RANKS : Array DictEntry} {n_RANKS : Nat} (m_RANKS : mg "RANKS" = some (.ref a_RANKS)) (KD_RANKS : KDict K w a_RANKS es_RANKS n_RANKS) (d_RANKS : KdAt K a_RANKS ranksL) : FnOk P w K mg base CX0 (k + 1) f fd ["tree", "least"] (sp_operand_text K d) := by
  have nd := sc_operand_text.nd
  refine D.fn.ok sc_operand_text (fun vs H Q E h => spF2.len h) (fun cdv A outer s H vs Q E hr h => ⟨t_operand_text K a_RANKS d, ?_, pure_operand_text h⟩)
  exact (pss_cons (ps_set (i := 2) nd rfl (.inl rfl) (pe_call G_plain_text (hr.mono hk_plain_text) rfl D_plain_text.m D_plain_text.fn.kp D_plain_text.b .nil pass0 (pa_cons (pv 0) pa_nil)))
      (pss_one (ps_ret (pe_ifExp (pt_cmpR op_lt (pe_kget2 KD_RANKS d_RANKS (pe_glob rfl m_RANKS rfl) (pe_ix ix_tup (pv 0) pe_int (fun _ _ => rfl)) (pe_glob rfl m_SINGLE ⟨_, rfl⟩) ⟨by rfl, by rfl, by rfl, by rfl⟩) (pv 1) (nomark _)) (pe_joined (.cons pe_str (.cons (pe_fmt (pv 2)) (.cons pe_str .nil)))) (pv 2)))))
theorem ok_single_text {f : Addr} {fd : FuncData} {k : Nat} {d : Nat} (D : DefAt K mg "single_text" s_single_text ["tree"] f fd) {f_operand_text : Addr} {fd_operand_text : FuncData} {k_operand_text : Nat} (D_operand_text : DefAt K mg "operand_text" s_operand_text ["tree", "least"] f_operand_text fd_operand_text) (G_operand_text : FnOk P w K mg base CX0 k_operand_text f_operand_text fd_operand_text ["tree", "least"] (sp_operand_text K d)) (hk_operand_text : k_operand_text ≤ k) {f_plain_text : Addr} {fd_plain_text : FuncData} {k_plain_text : Nat} (D_plain_text : DefAt K mg "plain_text" s_plain_text ["tree"] f_plain_text fd_plain_text) (G_plain_text : FnOk P w K mg base CX0 k_plain_text f_plain_text fd_plain_text ["tree"] (sp_plain_text K (d + 1))) (hk_plain_text : k_plain_text ≤ k) (b_str : mg "str" = none) {t_SINGLE : Tok} (m_SINGLE : mg "SINGLE" = some (.int 3 t_SINGLE)) : FnOk P w K mg base CX0 (k + 1) f fd ["tree"] (sp_single_text K (d + 3)) := by
  have nd := sc_single_text.nd
  refine D.fn.ok sc_single_text (fun vs H Q E h => spF1.len h) (fun cdv A outer s H vs Q E hr h => ⟨t_single_text K d, ?_, pure_single_text h⟩)
  exact (pss_cons (ps_set (i := 1) nd rfl (.inl rfl) (pe_ix ix_tup (pv 0) pe_int (fun _ _ => rfl)))
      (pss_cons (ps_if (pt_cmpR op_eq (pv 1) pe_str (nomark _)) (pss_one (ps_ret (pe_op op_add_str pe_str (pe_call G_operand_text (hr.mono hk_operand_text) rfl D_operand_text.m D_operand_text.fn.kp D_operand_text.b .nil pass0 (pa_cons (pe_ix ix_tup (pv 0) pe_int (fun _ _ => rfl)) (pa_cons (pe_glob rfl m_SINGLE ⟨_, rfl⟩) pa_nil)))))) pss_nil)
      (pss_cons (ps_if (pt_cmpR op_eq (pv 1) pe_str (nomark _)) (pss_one (ps_ret (pe_op op_add_str pe_str (pe_call G_operand_text (hr.mono hk_operand_text) rfl D_operand_text.m D_operand_text.fn.kp D_operand_text.b .nil pass0 (pa_cons (pe_ix ix_tup (pv 0) pe_int (fun _ _ => rfl)) (pa_cons (pe_glob rfl m_SINGLE ⟨_, rfl⟩) pa_nil)))))) pss_nil)
      (pss_cons (ps_if (pt_cmpR op_eq (pv 1) pe_str (nomark _)) (pss_cons (ps_set (i := 2) nd rfl (.inl rfl) (pe_join pe_str (pe_lc (own := [("part", 3)]) (g := (gName 3)) (tt := tYes) (te := (tCall (sp_plain_text K (d + 1)) [] E0 (tCons (tVar 3) tNil))) rfl nd (pi_tup (pe_ix ix_tup (pv 0) pe_int (fun _ _ => rfl))) (blkOk_by (own := [("part", 3)]) (N := N_single_text) (sc := defScope s_single_text) (by decide +kernel)) (fun _ _ _ _ _ => (pg_name (i := 3) nd rfl (.inl rfl))) (fun _ _ _ _ _ => pts_nil) (fun _ _ _ _ _ => (pe_call G_plain_text (hr.mono hk_plain_text) rfl D_plain_text.m D_plain_text.fn.kp D_plain_text.b .nil pass0 (pa_cons (pv 3) pa_nil))))))
      (pss_one (ps_ret (pe_joined (.cons (pe_fmt (pe_ix ix_tup (pv 0) pe_int (fun _ _ => rfl))) (.cons pe_str (.cons (pe_fmt (pv 2)) (.cons pe_str .nil)))))))) pss_nil)
      (pss_one (ps_ret (pe_callTy call_str_is (by rfl) b_str (by decide +kernel) (pa_cons (pe_ix ix_tup (pv 0) pe_int (fun _ _ => rfl)) pa_nil))))))))
theorem ok_plain_text {f : Addr} {fd : FuncData} {k : Nat} {d : Nat} (D : DefAt K mg "plain_text" s_plain_text ["tree"] f fd) {f_unrolled : Addr} {fd_unrolled : FuncData} {k_unrolled : Nat} (D_unrolled : DefAt K mg "unrolled" s_unrolled ["tree"] f_unrolled fd_unrolled) (G_unrolled : FnOk P w K mg base CX0 k_unrolled f_unrolled fd_unrolled ["tree"] (sp_unrolled K)) (hk_unrolled : k_unrolled ≤ k) {f_single_text : Addr} {fd_single_text : FuncData} {k_single_text : Nat} (D_single_text : DefAt K mg "single_text" s_single_text ["tree"] f_single_text fd_single_text) (G_single_text : FnOk P w K mg base CX0 k_single_text f_single_text fd_single_text ["tree"] (sp_single_text K (d + 2))) (hk_single_text : k_single_text ≤ k) {f_operand_text : Addr} {fd_operand_text : FuncData} {k_operand_text : Nat} (D_operand_text : DefAt K mg "operand_text" s_operand_text ["tree", "least"] f_operand_text fd_operand_text) (G_operand_text : FnOk P w K mg base CX0 k_operand_text f_operand_text fd_operand_text ["tree", "least"] (sp_operand_text K d)) (hk_operand_text : k_operand_text ≤ k) {t_SINGLE : Tok} (m_SINGLE : mg "SINGLE" = some (.int 3 t_SINGLE)) {a_RANKS : Addr} {es_RANKS : Array DictEntry} {n_RANKS : Nat} (m_RANKS : mg "RANKS" = some (.ref a_RANKS)) (KD_RANKS : KDict K w a_RANKS es_RANKS n_RANKS) (d_RANKS : KdAt K a_RANKS ranksL) {a_MARKS_OF : Addr} {es_MARKS_OF : Array DictEntry} {n_MARKS_OF : Nat} (m_MARKS_OF : mg "MARKS_OF" = some (.ref a_MARKS_OF)) (KD_MARKS_OF : KDict K w a_MARKS_OF es_MARKS_OF n_MARKS_OF) (d_MARKS_OF : KdAt K a_MARKS_OF marksOfL) : FnOk P w K mg base CX0 (k + 1) f fd ["tree"] (sp_plain_text K (d + 2)) := by
  have nd := sc_plain_text.nd
  refine D.fn.ok sc_plain_text (fun vs H Q E h => spF1.len h) (fun cdv A outer s H vs Q E hr h => ⟨t_plain_text K a_RANKS a_MARKS_OF d, ?_, pure_plain_text h⟩)
  exact (pss_cons (ps_asg (pe_call G_unrolled (hr.mono hk_unrolled) rfl D_unrolled.m D_unrolled.fn.kp D_unrolled.b .nil pass0 (pa_cons (pv 0) pa_nil)) (pg_tup rfl (pgs_cons (pg_name (i := 3) nd rfl (.inl rfl)) (pgs_cons (pg_name (i := 4) nd rfl (.inl rfl)) pgs_nil))))
      (pss_cons (ps_set (i := 1) nd rfl (.inl rfl) (pe_call G_single_text (hr.mono hk_single_text) rfl D_single_text.m D_single_text.fn.kp D_single_text.b .nil pass0 (pa_cons (pv 3) pa_nil)))
      (pss_cons (ps_set (i := 2) nd rfl (.inl rfl) (pe_glob rfl m_SINGLE ⟨_, rfl⟩))
      (pss_cons (ps_for PassesOwn.never rfl (pi_list (pv 4)) (pg_tup rfl (pgs_cons (pg_name (i := 5) nd rfl (.inl rfl)) (pgs_cons (pg_name (i := 6) nd rfl (.inl rfl)) pgs_nil))) (pss_cons (ps_if (pt_cmpR op_lt (pv 2) (pe_ix (ix_KD KD_RANKS d_RANKS) (pe_glob rfl m_RANKS rfl) (pv 5) (fun _ _ => rfl)) (nomark _)) (pss_one (ps_set (i := 1) nd rfl (.inl rfl) (pe_joined (.cons pe_str (.cons (pe_fmt (pv 1)) (.cons pe_str .nil)))))) pss_nil)
      (pss_cons (ps_set (i := 2) nd rfl (.inl rfl) (pe_ix (ix_KD KD_RANKS d_RANKS) (pe_glob rfl m_RANKS rfl) (pv 5) (fun _ _ => rfl)))
      (pss_one (ps_set (i := 1) nd rfl (.inl rfl) (pe_op op_add_str (pe_op op_add_str (pv 1) (pe_ix (ix_KD KD_MARKS_OF d_MARKS_OF) (pe_glob rfl m_MARKS_OF rfl) (pv 5) (fun _ _ => rfl))) (pe_call G_operand_text (hr.mono hk_operand_text) rfl D_operand_text.m D_operand_text.fn.kp D_operand_text.b .nil pass0 (pa_cons (pv 6) (pa_cons (pe_op op_add (pv 2) pe_int) pa_nil)))))))))
      (pss_one (ps_ret (pv 1)))))))
theorem ok_law_row {f : Addr} {fd : FuncData} {k : Nat} (D : DefAt K mg "_law_row" s_law_row ["script"] f fd) (b_range : mg "range" = none) (b_len : mg "len" = none) (b_abs : mg "abs" = none) (b_int : mg "int" = none) : FnOk P w K mg base CX0 (k + 1) f fd ["script"] (sp_law_row K) := by
  have nd := sc_law_row.nd
  refine D.fn.ok sc_law_row (fun vs H Q E h => spF1.len h) (fun cdv A outer s H vs Q E hr h => ⟨t_law_row K, ?_, pure_law_row h⟩)
  exact (pss_cons (ps_set (i := 1) nd rfl (.inl rfl) (pe_lst pa_nil))
      (pss_cons (ps_for PassesOwn.never rfl (pi_range1 rfl b_range (pa_cons (pe_callB call_len_seq (by rfl) b_len PySem.boot_len (pa_cons (pv 0) pa_nil)) pa_nil)) (pg_name (i := 2) nd rfl (.inl rfl)) (pss_cons (ps_set (i := 3) nd rfl (.inl rfl) (pe_callB call_abs (by rfl) b_abs (by decide +kernel) (pa_cons (pe_callTy call_int1 (by rfl) b_int (by decide +kernel) (pa_cons (pe_ix ix_list (pv 0) (pv 2) (fun _ _ => rfl)) pa_nil)) pa_nil)))
      (pss_one (ps_if (pt_cmpR op_ge (pv 3) (pe_op op_pow pe_int pe_int) (nomark _)) (pss_one (ps_for PassesOwn.never rfl (pi_range1 rfl b_range (pa_cons pe_int pa_nil)) (pg_name (i := 4) nd rfl (.inl rfl)) (pss_one (ps_if (pt_cmpR op_gt (pv 3) pe_int (nomark _)) (pss_cons (ps_expr (pe_bm PySem.F.plainAttrs_list PySem.F.slot_list_append PySem.F.type_list_append mt_append (pv 1) (pa_cons (pe_op op_mod (pe_callTy call_int1 (by rfl) b_int (by decide +kernel) (pa_cons (pv 3) pa_nil)) pe_int) pa_nil)))
      (pss_one (ps_set (i := 3) nd rfl (.inl rfl) (pe_op op_fdiv (pv 3) pe_int)))) pss_nil)))) (pss_cons (ps_set (i := 5) nd rfl (.inl rfl) (pe_op op_mod (pe_callTy call_int1 (by rfl) b_int (by decide +kernel) (pa_cons (pe_op op_add (pe_op op_add (pe_op op_mul (pv 3) pe_int) (pe_op op_mul (pv 2) pe_int)) pe_int) pa_nil)) pe_int))
      (pss_one (ps_for PassesOwn.never rfl (pi_range1 rfl b_range (pa_cons pe_int pa_nil)) (pg_name (i := 4) nd rfl (.inl rfl)) (pss_cons (ps_set (i := 5) nd rfl (.inl rfl) (pe_op op_mod (pe_callTy call_int1 (by rfl) b_int (by decide +kernel) (pa_cons (pe_op op_add (pe_op op_add (pe_op op_mul (pv 5) pe_int) (pe_op op_mul pe_int (pv 4))) pe_int) pa_nil)) pe_int))
      (pss_one (ps_expr (pe_bm PySem.F.plainAttrs_list PySem.F.slot_list_append PySem.F.type_list_append mt_append (pv 1) (pa_cons (pe_op op_mod (pe_callTy call_int1 (by rfl) b_int (by decide +kernel) (pa_cons (pe_op op_fdiv (pv 5) pe_int) pa_nil)) pe_int) pa_nil))))))))))))
      (pss_one (ps_ret (pv 1)))))
theorem ok_law_at {f : Addr} {fd : FuncData} {k : Nat} (D : DefAt K mg "_law_at" s_law_at ["row", "at"] f fd) (b_len : mg "len" = none) : FnOk P w K mg base CX0 (k + 1) f fd ["row", "at"] (sp_law_at K) := by
  have nd := sc_law_at.nd
  refine D.fn.ok sc_law_at (fun vs H Q E h => spF2.len h) (fun cdv A outer s H vs Q E hr h => ⟨t_law_at K, ?_, pure_law_at h⟩)
  exact (pss_cons (ps_if (pt_chain op_le op_lt pe_int (pv 1) (pe_callB call_len_seq (by rfl) b_len PySem.boot_len (pa_cons (pv 0) pa_nil))) (pss_one (ps_ret (pe_ix ix_list (pv 0) (pv 1) (fun _ _ => rfl)))) pss_nil)
      (pss_one (ps_ret pe_int)))
theorem ok_law_next {f : Addr} {fd : FuncData} {k : Nat} (D : DefAt K mg "_law_next" s_law_next ["row", "state"] f fd) {f__law_at : Addr} {fd__law_at : FuncData} {k__law_at : Nat} (D__law_at : DefAt K mg "_law_at" s_law_at ["row", "at"] f__law_at fd__law_at) (G__law_at : FnOk P w K mg base CX0 k__law_at f__law_at fd__law_at ["row", "at"] (sp_law_at K)) (hk__law_at : k__law_at ≤ k) (b_int : mg "int" = none) : FnOk P w K mg base CX0 (k + 1) f fd ["row", "state"] (sp_law_next K) := by
  have nd := sc_law_next.nd
  refine D.fn.ok sc_law_next (fun vs H Q E h => spnext_len h) (fun cdv A outer s H vs Q E hr h => ⟨t_law_next K, ?_, pure_law_next h⟩)
  exact (pss_cons (ps_asg (pe_op op_add (pe_ix ix_list (pv 1) pe_int (fun _ _ => rfl)) pe_int) (pg_sub (pv 1) pe_int set_list))
      (pss_one (ps_ret (pe_callTy call_int1 (by rfl) b_int (by decide +kernel) (pa_cons (pe_call G__law_at (hr.mono hk__law_at) rfl D__law_at.m D__law_at.fn.kp D__law_at.b .nil pass0 (pa_cons (pv 0) (pa_cons (pe_ix ix_list (pv 1) pe_int (fun _ _ => rfl)) pa_nil))) pa_nil)))))
theorem ok_law_tree {f : Addr} {fd : FuncData} {k : Nat} {d : Nat} (D : DefAt K mg "_law_tree" s_law_tree ["row", "state", "depth", "names"] f fd) {f__law_next : Addr} {fd__law_next : FuncData} {k__law_next : Nat} (D__law_next : DefAt K mg "_law_next" s_law_next ["row", "state"] f__law_next fd__law_next) (G__law_next : FnOk P w K mg base CX0 k__law_next f__law_next fd__law_next ["row", "state"] (sp_law_next K)) (hk__law_next : k__law_next ≤ k) (b_len : mg "len" = none) (b_range : mg "range" = none) (b_tuple : mg "tuple" = none) (G__law_tree : FnOk P w K mg base CX0 k f fd ["row", "state", "depth", "names"] (sp_law_tree K d)) : FnOk P w K mg base CX0 (k + 1) f fd ["row", "state", "depth", "names"] (sp_law_tree K (d + 1)) := by
  have D__law_tree := D
  have nd := sc_law_tree.nd
  refine D.fn.ok sc_law_tree (fun vs H Q E h => sptree_len h) (fun cdv A outer s H vs Q E hr h => ⟨t_law_tree K d, ?_, pure_law_tree h⟩)
  exact (pss_cons (ps_set (i := 4) nd rfl (.inl rfl) (pe_call G__law_next (hr.mono hk__law_next) rfl D__law_next.m D__law_next.fn.kp D__law_next.b .nil pass0 (pa_cons (pv 0) (pa_cons (pv 1) pa_nil))))
      (pss_cons (ps_set (i := 5) nd rfl (.inl rfl) (pe_op op_mod (pv 4) pe_int))
      (pss_cons (ps_if (PW.pt (pw_or (pt_cmpR op_le (pv 2) pe_int (nomark _)) (pw_or1 (pt_cmpR op_lt (pv 5) pe_int (nomark _))))) (pss_cons (ps_if (PW.pt (pw_and (pt_cmpR op_gt (pe_callB call_len_seq (by rfl) b_len PySem.boot_len (pa_cons (pv 3) pa_nil)) pe_int (nomark _)) (pw_and1 (pt_cmpR op_eq (pe_op op_mod (pe_op op_fdiv (pv 4) pe_int) pe_int) pe_int (nomark _))))) (pss_one (ps_ret (pe_tup (pa_cons pe_str (pa_cons (pe_ix ix_list (pv 3) (pe_op op_mod (pe_op op_fdiv (pv 4) pe_int) (pe_callB call_len_seq (by rfl) b_len PySem.boot_len (pa_cons (pv 3) pa_nil))) (fun _ _ => rfl)) pa_nil))))) pss_nil)
      (pss_one (ps_ret (pe_tup (pa_cons pe_str (pa_cons (pe_ix ix_list (pe_lst (pa_cons (pe_op op_mod (pe_op op_fdiv (pv 4) pe_int) pe_int) (pa_cons (pe_op op_fdiv (pv 4) pe_int) (pa_cons pe_int (pa_cons (pe_op op_add pe_int (pe_op op_mul pe_int (pe_op op_mod (pe_op op_fdiv (pv 4) pe_int) pe_int))) pa_nil))))) (pe_op op_mod (pe_op op_fdiv (pv 4) pe_int) pe_int) (fun _ _ => rfl)) pa_nil)))))) pss_nil)
      (pss_cons (ps_if (pt_cmpR op_lt (pv 5) pe_int (nomark _)) (pss_cons (ps_set (i := 6) nd rfl (.inl rfl) (pe_ix ix_list (pe_lst (pa_cons pe_str (pa_cons pe_str (pa_cons pe_str (pa_cons pe_str (pa_cons pe_str (pa_cons pe_str (pa_cons pe_str pa_nil)))))))) (pe_op op_sub (pv 5) pe_int) (fun _ _ => rfl)))
      (pss_cons (ps_set (i := 10) nd rfl (.inl rfl) (pe_call G__law_tree hr rfl D__law_tree.m D__law_tree.fn.kp D__law_tree.b .nil pass0 (pa_cons (pv 0) (pa_cons (pv 1) (pa_cons (pe_op op_sub (pv 2) pe_int) (pa_cons (pv 3) pa_nil))))))
      (pss_one (ps_ret (pe_tup (pa_cons (pv 6) (pa_cons (pv 10) (pa_cons (pe_call G__law_tree hr rfl D__law_tree.m D__law_tree.fn.kp D__law_tree.b .nil pass0 (pa_cons (pv 0) (pa_cons (pv 1) (pa_cons (pe_op op_sub (pv 2) pe_int) (pa_cons (pv 3) pa_nil))))) pa_nil)))))))) pss_nil)
      (pss_cons (ps_if (pt_cmpR op_eq (pv 5) pe_int (nomark _)) (pss_one (ps_ret (pe_tup (pa_cons pe_str (pa_cons (pe_call G__law_tree hr rfl D__law_tree.m D__law_tree.fn.kp D__law_tree.b .nil pass0 (pa_cons (pv 0) (pa_cons (pv 1) (pa_cons (pe_op op_sub (pv 2) pe_int) (pa_cons (pv 3) pa_nil))))) pa_nil))))) pss_nil)
      (pss_cons (ps_if (pt_cmpR op_eq (pv 5) pe_int (nomark _)) (pss_one (ps_ret (pe_tup (pa_cons pe_str (pa_cons (pe_call G__law_tree hr rfl D__law_tree.m D__law_tree.fn.kp D__law_tree.b .nil pass0 (pa_cons (pv 0) (pa_cons (pv 1) (pa_cons (pe_op op_sub (pv 2) pe_int) (pa_cons (pv 3) pa_nil))))) pa_nil))))) pss_nil)
      (pss_cons (ps_set (i := 6) nd rfl (.inl rfl) (pe_ix ix_list (pe_lst (pa_cons pe_str (pa_cons pe_str (pa_cons pe_str (pa_cons pe_str (pa_cons pe_str (pa_cons pe_str (pa_cons pe_str (pa_cons pe_str pa_nil))))))))) (pe_op op_mod (pe_op op_fdiv (pv 4) pe_int) pe_int) (fun _ _ => rfl)))
      (pss_cons (ps_set (i := 7) nd rfl (.inl rfl) (pe_ix ix_list (pe_lst (pa_cons pe_int (pa_cons pe_int (pa_cons pe_int (pa_cons pe_int (pa_cons pe_int (pa_cons pe_int (pa_cons pe_int (pa_cons pe_int pa_nil))))))))) (pe_op op_mod (pe_op op_fdiv (pv 4) pe_int) pe_int) (fun _ _ => rfl)))
      (pss_cons (ps_set (i := 8) nd rfl (.inl rfl) (pe_lst pa_nil))
      (pss_cons (ps_for PassesOwn.never rfl (pi_range1 rfl b_range (pa_cons (pv 7) pa_nil)) (pg_name (i := 9) nd rfl (.inl rfl)) (pss_one (ps_expr (pe_bm PySem.F.plainAttrs_list PySem.F.slot_list_append PySem.F.type_list_append mt_append (pv 8) (pa_cons (pe_call G__law_tree hr rfl D__law_tree.m D__law_tree.fn.kp D__law_tree.b .nil pass0 (pa_cons (pv 0) (pa_cons (pv 1) (pa_cons (pe_op op_sub (pv 2) pe_int) (pa_cons (pv 3) pa_nil))))) pa_nil)))))
      (pss_one (ps_ret (pe_tup (pa_cons pe_str (pa_cons (pv 6) (pa_cons (pe_tupleOf rfl b_tuple (pv 8)) pa_nil))))))))))))))))
theorem ok_law_rank {f : Addr} {fd : FuncData} {k : Nat} (D : DefAt K mg "_law_rank" s_law_rank ["tree"] f fd) : FnOk P w K mg base CX0 (k + 1) f fd ["tree"] (sp_law_rank K) := by
  have nd := sc_law_rank.nd
  refine D.fn.ok sc_law_rank (fun vs H Q E h => spF1.len h) (fun cdv A outer s H vs Q E hr h => ⟨t_law_rank K, ?_, pure_law_rank h⟩)
  exact (pss_one (ps_ret (pe_dget2 (hu_of hr) (pe_disp (pps_cons pe_str pe_int (pps_cons pe_str pe_int (pps_cons pe_str pe_int (pps_cons pe_str pe_int (pps_cons pe_str pe_int (pps_cons pe_str pe_int (pps_cons pe_str pe_int pps_nil))))))) rfl rfl (by intro h; cases h) (by decide)) (pe_ix ix_tup (pv 0) pe_int (fun _ _ => rfl)) pe_int ⟨by rfl, by rfl, by rfl, by rfl⟩)))
theorem ok_law_plain26 {f : Addr} {fd : FuncData} {k : Nat} {d : Nat} (D : DefAt K mg "_law_plain" s_law_plain26 ["tree", "extra"] f fd) {f__law_operand : Addr} {fd__law_operand : FuncData} {k__law_operand : Nat} (D__law_operand : DefAt K mg "_law_operand" s_law_operand ["tree", "least", "extra"] f__law_operand fd__law_operand) (G__law_operand : FnOk P w K mg base CX0 k__law_operand f__law_operand fd__law_operand ["tree", "least", "extra"] (sp_law_operand K d)) (hk__law_operand : k__law_operand ≤ k) {f__law_rank : Addr} {fd__law_rank : FuncData} {k__law_rank : Nat} (D__law_rank : DefAt K mg "_law_rank" s_law_rank ["tree"] f__law_rank fd__law_rank) (G__law_rank : FnOk P w K mg base CX0 k__law_rank f__law_rank fd__law_rank ["tree"] (sp_law_rank K)) (hk__law_rank : k__law_rank ≤ k) (b_str : mg "str" = none) (b_int : mg "int" = none) (G__law_plain : FnOk P w K mg base CX0 k f fd ["tree", "extra"] (sp_law_plain26 K d)) : FnOk P w K mg base CX0 (k + 1) f fd ["tree", "extra"] (sp_law_plain26 K (d + 1)) := by
  have D__law_plain := D
  have nd := sc_law_plain26.nd
  refine D.fn.ok sc_law_plain26 (fun vs H Q E h => spF2.len h) (fun cdv A outer s H vs Q E hr h => ⟨t_law_plain26 K d, ?_, pure_law_plain26 h⟩)
  exact (pss_cons (ps_set (i := 2) nd rfl (.inl rfl) (pe_ix ix_tup (pv 0) pe_int (fun _ _ => rfl)))
      (pss_cons (ps_if (pt_cmpR op_eq (pv 2) pe_str (nomark _)) (pss_one (ps_ret (pe_callTy call_str_is (by rfl) b_str (by decide +kernel) (pa_cons (pe_ix ix_tup (pv 0) pe_int (fun _ _ => rfl)) pa_nil)))) pss_nil)
      (pss_cons (ps_if (pt_cmpR op_eq (pv 2) pe_str (nomark _)) (pss_one (ps_ret (pe_ix ix_tup (pv 0) pe_int (fun _ _ => rfl)))) pss_nil)
      (pss_cons (ps_if (pt_cmpR op_eq (pv 2) pe_str (nomark _)) (pss_one (ps_ret (pe_op op_add_str (pe_op op_add_str (pe_op op_add_str (pe_ix ix_tup (pv 0) pe_int (fun _ _ => rfl)) pe_str) (pe_join pe_str (pe_lc (own := [("part", 5)]) (g := (gName 5)) (tt := tYes) (te := (tCall (sp_law_plain26 K d) [] E0 (tCons (tVar 5) (tCons (tVar 1) tNil)))) rfl nd (pi_tup (pe_ix ix_tup (pv 0) pe_int (fun _ _ => rfl))) (blkOk_by (own := [("part", 5)]) (N := N_law_plain26) (sc := defScope s_law_plain26) (by decide +kernel)) (fun _ _ _ _ _ => (pg_name (i := 5) nd rfl (.inl rfl))) (fun _ _ _ _ _ => pts_nil) (fun _ _ _ _ _ => (pe_call G__law_plain hr rfl D__law_plain.m D__law_plain.fn.kp D__law_plain.b .nil pass0 (pa_cons (pv 5) (pa_cons (pv 1) pa_nil))))))) pe_str))) pss_nil)
      (pss_cons (ps_if (PW.pt (pw_or (pt_cmpR op_eq (pv 2) pe_str (nomark _)) (pw_or1 (pt_cmpR op_eq (pv 2) pe_str (nomark _))))) (pss_one (ps_ret (pe_op op_add_str (pe_ix ix_list (pe_lst (pa_cons pe_str (pa_cons pe_str pa_nil))) (pe_callTy call_int1 (by rfl) b_int (by decide +kernel) (pa_cons (pe_cmpR op_eq (pv 2) pe_str (nomark _)) pa_nil)) (fun _ _ => rfl)) (pe_call G__law_operand (hr.mono hk__law_operand) rfl D__law_operand.m D__law_operand.fn.kp D__law_operand.b .nil pass0 (pa_cons (pe_ix ix_tup (pv 0) pe_int (fun _ _ => rfl)) (pa_cons (pe_op op_add pe_int (pe_op op_mul pe_int (pv 1))) (pa_cons (pv 1) pa_nil))))))) pss_nil)
      (pss_cons (ps_set (i := 3) nd rfl (.inl rfl) (pe_dget (hu_of hr) (pe_disp (pps_cons pe_str pe_str (pps_cons pe_str pe_str (pps_cons pe_str pe_str (pps_cons pe_str pe_str (pps_cons pe_str pe_str pps_nil))))) rfl rfl (by intro h; cases h) (by decide)) (pv 2) (fun _ _ => rfl)))
      (pss_cons (ps_set (i := 4) nd rfl (.inl rfl) (pe_call G__law_rank (hr.mono hk__law_rank) rfl D__law_rank.m D__law_rank.fn.kp D__law_rank.b .nil pass0 (pa_cons (pv 0) pa_nil)))
      (pss_one (ps_ret (pe_op op_add_str (pe_op op_add_str (pe_call G__law_operand (hr.mono hk__law_operand) rfl D__law_operand.m D__law_operand.fn.kp D__law_operand.b .nil pass0 (pa_cons (pe_ix ix_tup (pv 0) pe_int (fun _ _ => rfl)) (pa_cons (pe_op op_add (pv 4) (pe_op op_mul pe_int (pv 1))) (pa_cons (pv 1) pa_nil)))) (pv 3)) (pe_call G__law_operand (hr.mono hk__law_operand) rfl D__law_operand.m D__law_operand.fn.kp D__law_operand.b .nil pass0 (pa_cons (pe_ix ix_tup (pv 0) pe_int (fun _ _ => rfl)) (pa_cons (pe_op op_add (pe_op op_add (pv 4) pe_int) (pe_op op_mul pe_int (pv 1))) (pa_cons (pv 1) pa_nil))))))))))))))
theorem ok_law_operand {f : Addr} {fd : FuncData} {k : Nat} {d : Nat} (D : DefAt K mg "_law_operand" s_law_operand ["tree", "least", "extra"] f fd) {f__law_plain : Addr} {fd__law_plain : FuncData} {k__law_plain : Nat} (D__law_plain : DefAt K mg "_law_plain" s_law_plain26 ["tree", "extra"] f__law_plain fd__law_plain) (G__law_plain : FnOk P w K mg base CX0 k__law_plain f__law_plain fd__law_plain ["tree", "extra"] (sp_law_plain26 K d)) (hk__law_plain : k__law_plain ≤ k) {f__law_rank : Addr} {fd__law_rank : FuncData} {k__law_rank : Nat} (D__law_rank : DefAt K mg "_law_rank" s_law_rank ["tree"] f__law_rank fd__law_rank) (G__law_rank : FnOk P w K mg base CX0 k__law_rank f__law_rank fd__law_rank ["tree"] (sp_law_rank K)) (hk__law_rank : k__law_rank ≤ k) : FnOk P w K mg base CX0 (k + 1) f fd ["tree", "least", "extra"] (sp_law_operand K d) := by
  have nd := sc_law_operand.nd
  refine D.fn.ok sc_law_operand (fun vs H Q E h => spF3.len h) (fun cdv A outer s H vs Q E hr h => ⟨t_law_operand K d, ?_, pure_law_operand h⟩)
  exact (pss_cons (ps_set (i := 3) nd rfl (.inl rfl) (pe_call G__law_plain (hr.mono hk__law_plain) rfl D__law_plain.m D__law_plain.fn.kp D__law_plain.b .nil pass0 (pa_cons (pv 0) (pa_cons (pv 2) pa_nil))))
      (pss_cons (ps_if (pt_cmpR op_lt (pe_call G__law_rank (hr.mono hk__law_rank) rfl D__law_rank.m D__law_rank.fn.kp D__law_rank.b .nil pass0 (pa_cons (pv 0) pa_nil)) (pv 1) (nomark _)) (pss_one (ps_ret (pe_op op_add_str (pe_op op_add_str pe_str (pv 3)) pe_str))) pss_nil)
      (pss_one (ps_ret (pv 3)))))
theorem ok_law_levels26 {f : Addr} {fd : FuncData} {k : Nat} {d : Nat} (D : DefAt K mg "_law_levels" s_law_levels26 ["tree"] f fd) (b_max : mg "max" = none) (G__law_levels : FnOk P w K mg base CX0 k f fd ["tree"] (sp_law_levels26 K d)) : FnOk P w K mg base CX0 (k + 1) f fd ["tree"] (sp_law_levels26 K (d + 1)) := by
  have D__law_levels := D
  have nd := sc_law_levels26.nd
  refine D.fn.ok sc_law_levels26 (fun vs H Q E h => spF1.len h) (fun cdv A outer s H vs Q E hr h => ⟨t_law_levels26 K d, ?_, pure_law_levels26 h⟩)
  exact (pss_cons (ps_set (i := 1) nd rfl (.inl rfl) (pe_ix ix_tup (pv 0) pe_int (fun _ _ => rfl)))
      (pss_cons (ps_if (PW.pt (pw_or (pt_cmpR op_eq (pv 1) pe_str (nomark _)) (pw_or1 (pt_cmpR op_eq (pv 1) pe_str (nomark _))))) (pss_one (ps_ret pe_int)) pss_nil)
      (pss_cons (ps_if (pt_cmpR op_eq (pv 1) pe_str (nomark _)) (pss_one (ps_ret (pe_op op_add pe_int (pe_callB (cr_max rfl) (by rfl) b_max (by decide +kernel) (pa_cons (pe_lc (own := [("part", 3)]) (g := (gName 3)) (tt := tYes) (te := (tCall (sp_law_levels26 K d) [] E0 (tCons (tVar 3) tNil))) rfl nd (pi_tup (pe_ix ix_tup (pv 0) pe_int (fun _ _ => rfl))) (blkOk_by (own := [("part", 3)]) (N := N_law_levels26) (sc := defScope s_law_levels26) (by decide +kernel)) (fun _ _ _ _ _ => (pg_name (i := 3) nd rfl (.inl rfl))) (fun _ _ _ _ _ => pts_nil) (fun _ _ _ _ _ => (pe_call G__law_levels hr rfl D__law_levels.m D__law_levels.fn.kp D__law_levels.b .nil pass0 (pa_cons (pv 3) pa_nil)))) pa_nil))))) pss_nil)
      (pss_cons (ps_setLc (i := 2) (own := [("part", 3)]) (g := (gName 3)) (tt := tYes) (te := (tOp xAdd (tCall (sp_law_levels26 K d) [] E0 (tCons (tVar 3) tNil)) (tC (.int 1)))) rfl nd rfl rfl (sw_true rfl rfl rfl (by decide +kernel)) (pi_tup (pe_slice sl_tupA (pv 0) (po_some pe_int) po_none)) (blkOk_by (own := [("part", 3)]) (N := N_law_levels26) (sc := defScope s_law_levels26) (by decide +kernel)) (fun _ _ _ _ _ => (pg_name (i := 3) nd rfl (.inl rfl))) (fun _ _ _ _ _ => pts_nil) (fun _ _ _ _ _ => (pe_op op_add (pe_call G__law_levels hr rfl D__law_levels.m D__law_levels.fn.kp D__law_levels.b .nil pass0 (pa_cons (pv 3) pa_nil)) pe_int)))
      (pss_one (ps_ret (pe_op op_add pe_int (pe_callB (cr_max rfl) (by rfl) b_max (by decide +kernel) (pa_cons (pv 2) pa_nil)))))))))
theorem ok_law_names26 {f : Addr} {fd : FuncData} {k : Nat} {d : Nat} (D : DefAt K mg "_law_names" s_law_names26 ["tree"] f fd) (G__law_names : FnOk P w K mg base CX0 k f fd ["tree"] (sp_law_names26 K d)) : FnOk P w K mg base CX0 (k + 1) f fd ["tree"] (sp_law_names26 K (d + 1)) := by
  have D__law_names := D
  have nd := sc_law_names26.nd
  refine D.fn.ok sc_law_names26 (fun vs H Q E h => spF1.len h) (fun cdv A outer s H vs Q E hr h => ⟨t_law_names26 K d, ?_, pure_law_names26 h⟩)
  exact (pss_cons (ps_if (pt_cmpR op_eq (pe_ix ix_tup (pv 0) pe_int (fun _ _ => rfl)) pe_str (nomark _)) (pss_one (ps_ret (pe_lst pa_nil))) pss_nil)
      (pss_cons (ps_if (pt_cmpR op_eq (pe_ix ix_tup (pv 0) pe_int (fun _ _ => rfl)) pe_str (nomark _)) (pss_one (ps_ret (pe_lst (pa_cons (pe_ix ix_tup (pv 0) pe_int (fun _ _ => rfl)) pa_nil)))) pss_nil)
      (pss_cons (ps_set (i := 1) nd rfl (.inl rfl) (pe_slice sl_tupA (pv 0) (po_some pe_int) po_none))
      (pss_cons (ps_if (pt_cmpR op_eq (pe_ix ix_tup (pv 0) pe_int (fun _ _ => rfl)) pe_str (nomark _)) (pss_one (ps_set (i := 1) nd rfl (.inl rfl) (pe_ix ix_tup (pv 0) pe_int (fun _ _ => rfl)))) pss_nil)
      (pss_cons (ps_set (i := 2) nd rfl (.inl rfl) (pe_lst pa_nil))
      (pss_cons (ps_for PassesOwn.never rfl (pi_tup (pv 1)) (pg_name (i := 3) nd rfl (.inl rfl)) (pss_one (ps_set (i := 2) nd rfl (.inl rfl) (pe_op op_cat (pv 2) (pe_call G__law_names hr rfl D__law_names.m D__law_names.fn.kp D__law_names.b .nil pass0 (pa_cons (pv 3) pa_nil))))))
      (pss_one (ps_ret (pv 2)))))))))
theorem ok_law_once26 {f : Addr} {fd : FuncData} {k : Nat} (D : DefAt K mg "_law_once" s_law_once26 ["names"] f fd) : FnOk P w K mg base CX0 (k + 1) f fd ["names"] (sp_law_once26 K) := by
  have nd := sc_law_once26.nd
  refine D.fn.ok sc_law_once26 (fun vs H Q E h => spF1.len h) (fun cdv A outer s H vs Q E hr h => ⟨t_law_once26 K, ?_, pure_law_once26 h⟩)
  exact (pss_cons (ps_set (i := 1) nd rfl (.inl rfl) (pe_lst pa_nil))
      (pss_cons (ps_for PassesOwn.never rfl (pi_list (pv 0)) (pg_name (i := 2) nd rfl (.inl rfl)) (pss_one (ps_if (pt_cmpR op_notIn_seq (pv 2) (pv 1) (by rfl)) (pss_one (ps_expr (pe_bm PySem.F.plainAttrs_list PySem.F.slot_list_append PySem.F.type_list_append mt_append (pv 1) (pa_cons (pv 2) pa_nil)))) pss_nil)))
      (pss_one (ps_ret (pv 1)))))
theorem ok_law {f : Addr} {fd : FuncData} {k : Nat} (D : DefAt K mg "law" s_law ["script"] f fd) {a_BadForm : Addr} (C_BadForm : ClsAt K mg "BadForm" a_BadForm) {f__law_row : Addr} {fd__law_row : FuncData} {k__law_row : Nat} (D__law_row : DefAt K mg "_law_row" s_law_row ["script"] f__law_row fd__law_row) (G__law_row : FnOk P w K mg base CX0 k__law_row f__law_row fd__law_row ["script"] (sp_law_row K)) (hk__law_row : k__law_row ≤ k) {f__law_at : Addr} {fd__law_at : FuncData} {k__law_at : Nat} (D__law_at : DefAt K mg "_law_at" s_law_at ["row", "at"] f__law_at fd__law_at) (G__law_at : FnOk P w K mg base CX0 k__law_at f__law_at fd__law_at ["row", "at"] (sp_law_at K)) (hk__law_at : k__law_at ≤ k) {f__law_tree : Addr} {fd__law_tree : FuncData} {k__law_tree : Nat} (D__law_tree : DefAt K mg "_law_tree" s_law_tree ["row", "state", "depth", "names"] f__law_tree fd__law_tree) (G__law_tree : FnOk P w K mg base CX0 k__law_tree f__law_tree fd__law_tree ["row", "state", "depth", "names"] (sp_law_tree K 7)) (hk__law_tree : k__law_tree ≤ k) {f__law_plain : Addr} {fd__law_plain : FuncData} {k__law_plain : Nat} (D__law_plain : DefAt K mg "_law_plain" s_law_plain26 ["tree", "extra"] f__law_plain fd__law_plain) (G__law_plain : FnOk P w K mg base CX0 k__law_plain f__law_plain fd__law_plain ["tree", "extra"] (sp_law_plain26 K 7)) (hk__law_plain : k__law_plain ≤ k) {f_plain_text : Addr} {fd_plain_text : FuncData} {k_plain_text : Nat} (D_plain_text : DefAt K mg "plain_text" s_plain_text ["tree"] f_plain_text fd_plain_text) (G_plain_text : FnOk P w K mg base CX0 k_plain_text f_plain_text fd_plain_text ["tree"] (sp_plain_text K 24)) (hk_plain_text : k_plain_text ≤ k) {f_names_of : Addr} {fd_names_of : FuncData} {k_names_of : Nat} (D_names_of : DefAt K mg "names_of" s_names_of ["tree"] f_names_of fd_names_of) (G_names_of : FnOk P w K mg base CX0 k_names_of f_names_of fd_names_of ["tree"] (sp_names_of K)) (hk_names_of : k_names_of ≤ k) {f__law_once : Addr} {fd__law_once : FuncData} {k__law_once : Nat} (D__law_once : DefAt K mg "_law_once" s_law_once26 ["names"] f__law_once fd__law_once) (G__law_once : FnOk P w K mg base CX0 k__law_once f__law_once fd__law_once ["names"] (sp_law_once26 K)) (hk__law_once : k__law_once ≤ k) {f__law_names : Addr} {fd__law_names : FuncData} {k__law_names : Nat} (D__law_names : DefAt K mg "_law_names" s_law_names26 ["tree"] f__law_names fd__law_names) (G__law_names : FnOk P w K mg base CX0 k__law_names f__law_names fd__law_names ["tree"] (sp_law_names26 K 7)) (hk__law_names : k__law_names ≤ k) {f__law_levels : Addr} {fd__law_levels : FuncData} {k__law_levels : Nat} (D__law_levels : DefAt K mg "_law_levels" s_law_levels26 ["tree"] f__law_levels fd__law_levels) (G__law_levels : FnOk P w K mg base CX0 k__law_levels f__law_levels fd__law_levels ["tree"] (sp_law_levels26 K 7)) (hk__law_levels : k__law_levels ≤ k) {f_read_formula : Addr} {fd_read_formula : FuncData} {k_read_formula : Nat} (D_read_formula : DefAt K mg "read_formula" s_read_formula ["text"] f_read_formula fd_read_formula) (G_read_formula : FnOk P w K mg base (L2N.CX P w) k_read_formula f_read_formula fd_read_formula ["text"] (sp_read_formula K a_BadForm)) (hk_read_formula : k_read_formula ≤ k) (b_int : mg "int" = none) (b_sorted : mg "sorted" = none) (b_len : mg "len" = none) : FnOk P w K mg base CX0 (k + 1) f fd ["script"] (sp_law K) := by
  have nd := sc_law.nd
  refine D.fn.ok sc_law (fun vs H Q E h => spF1.len h) (fun cdv A outer s H vs Q E hr h => ⟨t_law K a_BadForm, ?_, pure_law h⟩)
  exact (pss_cons (ps_set (i := 1) nd rfl (.inl rfl) (pe_call G__law_row (hr.mono hk__law_row) rfl D__law_row.m D__law_row.fn.kp D__law_row.b .nil pass0 (pa_cons (pv 0) pa_nil)))
      (pss_cons (ps_set (i := 2) nd rfl (.inl rfl) (pe_slice sl_list (pe_lst (pa_cons pe_str (pa_cons pe_str (pa_cons pe_str (pa_cons pe_str pa_nil))))) po_none (po_some (pe_op op_add pe_int (pe_op op_mod (pe_callTy call_int1 (by rfl) b_int (by decide +kernel) (pa_cons (pe_call G__law_at (hr.mono hk__law_at) rfl D__law_at.m D__law_at.fn.kp D__law_at.b .nil pass0 (pa_cons (pv 1) (pa_cons pe_int pa_nil))) pa_nil)) pe_int)))))
      (pss_cons (ps_set (i := 3) nd rfl (.inl rfl) (pe_call G__law_tree (hr.mono hk__law_tree) rfl D__law_tree.m D__law_tree.fn.kp D__law_tree.b .nil pass0 (pa_cons (pv 1) (pa_cons (pe_lst (pa_cons pe_int pa_nil)) (pa_cons (pe_op op_add pe_int (pe_op op_mod (pe_callTy call_int1 (by rfl) b_int (by decide +kernel) (pa_cons (pe_call G__law_at (hr.mono hk__law_at) rfl D__law_at.m D__law_at.fn.kp D__law_at.b .nil pass0 (pa_cons (pv 1) (pa_cons pe_int pa_nil))) pa_nil)) pe_int)) (pa_cons (pv 2) pa_nil))))))
      (pss_cons (ps_set (i := 4) nd rfl (.inl rfl) (pe_call G__law_plain (hr.mono hk__law_plain) rfl D__law_plain.m D__law_plain.fn.kp D__law_plain.b .nil pass0 (pa_cons (pv 3) (pa_cons pe_int pa_nil))))
      (pss_cons (ps_if (pt_cmpR op_ne (pe_call G_plain_text (hr.mono hk_plain_text) rfl D_plain_text.m D_plain_text.fn.kp D_plain_text.b .nil pass0 (pa_cons (pv 3) pa_nil)) (pv 4) (nomark _)) (pss_one (ps_ret pe_bl)) pss_nil)
      (pss_cons (ps_if (pt_cmpR (op_neD (hu64 hr)) (pe_call G_names_of (hr.mono hk_names_of) rfl D_names_of.m D_names_of.fn.kp D_names_of.b .nil pass0 (pa_cons (pv 3) pa_nil)) (pe_callB cr_sortedS (by rfl) b_sorted (by decide +kernel) (pa_cons (pe_call G__law_once (hr.mono hk__law_once) rfl D__law_once.m D__law_once.fn.kp D__law_once.b .nil pass0 (pa_cons (pe_call G__law_names (hr.mono hk__law_names) rfl D__law_names.m D__law_names.fn.kp D__law_names.b .nil pass0 (pa_cons (pv 3) pa_nil)) pa_nil)) pa_nil)) (nomark _)) (pss_one (ps_ret pe_bl)) pss_nil)
      (pss_cons (ps_if (PW.pt (pw_or (pt_cmpR op_gt (pe_callB call_len_str (by rfl) b_len PySem.boot_len (pa_cons (pv 4) pa_nil)) pe_int (nomark _)) (pw_or1 (pt_cmpR op_gt (pe_call G__law_levels (hr.mono hk__law_levels) rfl D__law_levels.m D__law_levels.fn.kp D__law_levels.b .nil pass0 (pa_cons (pv 3) pa_nil)) pe_int (nomark _))))) (pss_one (ps_ret pe_bl)) pss_nil)
      (pss_cons (ps_if (PW.pt (pw_or (pt_cmpR (op_neN (hu150 hr)) (pe_call G_read_formula (hr.mono hk_read_formula) rfl D_read_formula.m D_read_formula.fn.kp D_read_formula.b .nil passLN (pa_cons (pv 4) pa_nil)) (pv 3) (nomark _)) (pw_or1 (pt_cmpR op_ne (pe_call G_plain_text (hr.mono hk_plain_text) rfl D_plain_text.m D_plain_text.fn.kp D_plain_text.b .nil pass0 (pa_cons (pe_call G_read_formula (hr.mono hk_read_formula) rfl D_read_formula.m D_read_formula.fn.kp D_read_formula.b .nil passLN (pa_cons (pv 4) pa_nil)) pa_nil)) (pv 4) (nomark _))))) (pss_one (ps_ret pe_bl)) pss_nil)
      (pss_cons (ps_if (pt_orT (ptb_cmp (op_neN (hu150 hr)) (peb_call1 G_read_formula (hr.mono hk_read_formula) rfl D_read_formula.m D_read_formula.fn.kp D_read_formula.b .nil passLN (peb_op op_add_str (peb_str op_add_str (CwR.pet_replC (pv 4))) pe_str)) (pv 3) (nomark _)) (ptt_cmp (op_neN (hu150 hr)) (pet_call1 G_read_formula (hr.mono hk_read_formula) rfl D_read_formula.m D_read_formula.fn.kp D_read_formula.b .nil passLN (CwR.pet_replC (pv 4))) (pv 3) (nomark _))) (pss_one (ps_ret pe_bl)) pss_nil)
      (pss_cons (ps_set (i := 5) nd rfl (.inl rfl) (pe_call G__law_plain (hr.mono hk__law_plain) rfl D__law_plain.m D__law_plain.fn.kp D__law_plain.b .nil pass0 (pa_cons (pv 3) (pa_cons pe_int pa_nil))))
      (pss_one (ps_ret (pe_or (pe_cmpR op_gt (pe_callB call_len_str (by rfl) b_len PySem.boot_len (pa_cons (pv 5) pa_nil)) pe_int (nomark _)) (pe_one (pe_and (pe_cmpR (op_eqN (hu150 hr)) (pe_call G_read_formula (hr.mono hk_read_formula) rfl D_read_formula.m D_read_formula.fn.kp D_read_formula.b .nil passLN (pa_cons (pv 5) pa_nil)) (pv 3) (nomark _)) (pe_one (pe_cmpR op_eq (pe_call G_plain_text (hr.mono hk_plain_text) rfl D_plain_text.m D_plain_text.fn.kp D_plain_text.b .nil pass0 (pa_cons (pe_call G_read_formula (hr.mono hk_read_formula) rfl D_read_formula.m D_read_formula.fn.kp D_read_formula.b .nil passLN (pa_cons (pe_op op_add_str (pe_op op_add_str pe_str (pv 5)) pe_str) pa_nil)) pa_nil)) (pv 4) (nomark _))))))))))))))))))
theorem all_Reader {a_Reader : Addr} (T_Reader : Cls K a_Reader) {a_BadForm : Addr} (C_BadForm : ClsAt K mg "BadForm" a_BadForm) (X_BadForm : ErrC P w K mg base "BadForm" a_BadForm) {f_Reader_read_sum : Addr} {fd_Reader_read_sum : FuncData} (D_Reader_read_sum : MetAt K a_Reader "read_sum" "Reader.read_sum" s_Reader_read_sum ["self", "level"] f_Reader_read_sum fd_Reader_read_sum) {f_Reader_read_product : Addr} {fd_Reader_read_product : FuncData} (D_Reader_read_product : MetAt K a_Reader "read_product" "Reader.read_product" s_Reader_read_product ["self", "level"] f_Reader_read_product fd_Reader_read_product) {f_Reader_read_sign : Addr} {fd_Reader_read_sign : FuncData} (D_Reader_read_sign : MetAt K a_Reader "read_sign" "Reader.read_sign" s_Reader_read_sign ["self", "level"] f_Reader_read_sign fd_Reader_read_sign) {f_Reader_read_part : Addr} {fd_Reader_read_part : FuncData} (D_Reader_read_part : MetAt K a_Reader "read_part" "Reader.read_part" s_Reader_read_part ["self", "level"] f_Reader_read_part fd_Reader_read_part) {f_Reader_read_args : Addr} {fd_Reader_read_args : FuncData} (D_Reader_read_args : MetAt K a_Reader "read_args" "Reader.read_args" s_Reader_read_args ["self", "level", "many"] f_Reader_read_args fd_Reader_read_args) {f_Reader_ahead : Addr} {fd_Reader_ahead : FuncData} {k_Reader_ahead : Nat} (D_Reader_ahead : MetAt K a_Reader "ahead" "Reader.ahead" s_Reader_ahead ["self"] f_Reader_ahead fd_Reader_ahead) (G_Reader_ahead : FnOk P w K mg base CX0 k_Reader_ahead f_Reader_ahead fd_Reader_ahead ["self"] (sp_ahead K a_Reader)) {f_Reader_take : Addr} {fd_Reader_take : FuncData} {k_Reader_take : Nat} (D_Reader_take : MetAt K a_Reader "take" "Reader.take" s_Reader_take ["self"] f_Reader_take fd_Reader_take) (G_Reader_take : FnOk P w K mg base CX0 k_Reader_take f_Reader_take fd_Reader_take ["self"] (sp_take K a_Reader)) {f_deeper : Addr} {fd_deeper : FuncData} {k_deeper : Nat} (D_deeper : DefAt K mg "deeper" s_deeper ["level"] f_deeper fd_deeper) (G_deeper : FnOk P w K mg base (L2N.CX P w) k_deeper f_deeper fd_deeper ["level"] (sp_deeper K a_BadForm)) {f_Reader_demand : Addr} {fd_Reader_demand : FuncData} {k_Reader_demand : Nat} (D_Reader_demand : MetAt K a_Reader "demand" "Reader.demand" s_Reader_demand ["self", "token"] f_Reader_demand fd_Reader_demand) (G_Reader_demand : FnOk P w K mg base (L2N.CX P w) k_Reader_demand f_Reader_demand fd_Reader_demand ["self", "token"] (sp_demand K a_Reader a_BadForm)) {f_is_name : Addr} {fd_is_name : FuncData} {k_is_name : Nat} (D_is_name : DefAt K mg "is_name" s_is_name ["word"] f_is_name fd_is_name) (G_is_name : FnOk P w K mg base CX0 k_is_name f_is_name fd_is_name ["word"] (sp_is_name K)) {f_is_integer : Addr} {fd_is_integer : FuncData} {k_is_integer : Nat} (D_is_integer : DefAt K mg "is_integer" s_is_integer ["word"] f_is_integer fd_is_integer) (G_is_integer : FnOk P w K mg base CX0 k_is_integer f_is_integer fd_is_integer ["word"] (sp_is_integer K)) (b_int : mg "int" = none) (b_len : mg "len" = none) (b_tuple : mg "tuple" = none) {a_SUMS : Addr} {es_SUMS : Array DictEntry} {n_SUMS : Nat} (m_SUMS : mg "SUMS" = some (.ref a_SUMS)) (KD_SUMS : KDict K w a_SUMS es_SUMS n_SUMS) (d_SUMS : KdAt K a_SUMS sumsL) {a_PRODUCTS : Addr} {es_PRODUCTS : Array DictEntry} {n_PRODUCTS : Nat} (m_PRODUCTS : mg "PRODUCTS" = some (.ref a_PRODUCTS)) (KD_PRODUCTS : KDict K w a_PRODUCTS es_PRODUCTS n_PRODUCTS) (d_PRODUCTS : KdAt K a_PRODUCTS productsL) {a_SIGNS : Addr} {es_SIGNS : Array DictEntry} {n_SIGNS : Nat} (m_SIGNS : mg "SIGNS" = some (.ref a_SIGNS)) (KD_SIGNS : KDict K w a_SIGNS es_SIGNS n_SIGNS) (d_SIGNS : KdAt K a_SIGNS signsL) {a_FUNCTIONS : Addr} {es_FUNCTIONS : Array DictEntry} {n_FUNCTIONS : Nat} (m_FUNCTIONS : mg "FUNCTIONS" = some (.ref a_FUNCTIONS)) (KD_FUNCTIONS : KDict K w a_FUNCTIONS es_FUNCTIONS n_FUNCTIONS) (d_FUNCTIONS : KdAt K a_FUNCTIONS functionsL) {kb : Nat} (hk_Reader_ahead : k_Reader_ahead ≤ kb) (hk_Reader_take : k_Reader_take ≤ kb) (hk_deeper : k_deeper ≤ kb) (hk_Reader_demand : k_Reader_demand ≤ kb) (hk_is_name : k_is_name ≤ kb) (hk_is_integer : k_is_integer ≤ kb) (hk3 : 3 ≤ kb) :
    ∀ d, FnOk P w K mg base (L2N.CX P w) (kb + 5 * d) f_Reader_read_sum fd_Reader_read_sum ["self", "level"] (sp_read_sum K a_Reader a_BadForm d) ∧
      FnOk P w K mg base (L2N.CX P w) (kb + 5 * d) f_Reader_read_product fd_Reader_read_product ["self", "level"] (sp_read_product K a_Reader a_BadForm d) ∧
      FnOk P w K mg base (L2N.CX P w) (kb + 5 * d) f_Reader_read_sign fd_Reader_read_sign ["self", "level"] (sp_read_sign K a_Reader a_BadForm d) ∧
      FnOk P w K mg base (L2N.CX P w) (kb + 5 * d) f_Reader_read_part fd_Reader_read_part ["self", "level"] (sp_read_part K a_Reader a_BadForm d) ∧
      FnOk P w K mg base (L2N.CX P w) (kb + 5 * d) f_Reader_read_args fd_Reader_read_args ["self", "level", "many"] (sp_read_args K a_Reader a_BadForm d) := by
  intro d
  induction d with
  | zero => exact ⟨fn_vac fun vs H Q E h => vac_rd h, fn_vac fun vs H Q E h => vac_rd h, fn_vac fun vs H Q E h => vac_rd h, fn_vac fun vs H Q E h => vac_rd h, fn_vac fun vs H Q E h => vac_args h⟩
  | succ d ih =>
    have N4 : FnOk P w K mg base (L2N.CX P w) (kb + 5 * d + 1) f_Reader_read_part fd_Reader_read_part ["self", "level"] (sp_read_part K a_Reader a_BadForm (d + 1)) := ok_Reader_read_part (k := kb + 5 * d + 0) (d := d) T_Reader D_Reader_read_part C_BadForm X_BadForm (by omega) D_Reader_take G_Reader_take (by omega) D_deeper G_deeper (by omega) D_Reader_read_sum ih.1 (by omega) D_Reader_demand G_Reader_demand (by omega) D_Reader_read_args ih.2.2.2.2 (by omega) D_is_name G_is_name (by omega) D_is_integer G_is_integer (by omega) b_int m_FUNCTIONS KD_FUNCTIONS d_FUNCTIONS
    have N3 : FnOk P w K mg base (L2N.CX P w) (kb + 5 * d + 2) f_Reader_read_sign fd_Reader_read_sign ["self", "level"] (sp_read_sign K a_Reader a_BadForm (d + 1)) := ok_Reader_read_sign (k := kb + 5 * d + 1) (d := d) T_Reader D_Reader_read_sign C_BadForm D_Reader_ahead G_Reader_ahead (by omega) D_Reader_take G_Reader_take (by omega) D_deeper G_deeper (by omega) D_Reader_read_part N4 (by omega) m_SIGNS KD_SIGNS d_SIGNS (ih.2.2.1.mono (by omega))
    have N2 : FnOk P w K mg base (L2N.CX P w) (kb + 5 * d + 3) f_Reader_read_product fd_Reader_read_product ["self", "level"] (sp_read_product K a_Reader a_BadForm (d + 1)) := ok_Reader_read_product (k := kb + 5 * d + 2) (d := d) T_Reader D_Reader_read_product C_BadForm D_Reader_read_sign N3 (by omega) D_Reader_ahead G_Reader_ahead (by omega) D_Reader_take G_Reader_take (by omega) m_PRODUCTS KD_PRODUCTS d_PRODUCTS
    have N1 : FnOk P w K mg base (L2N.CX P w) (kb + 5 * d + 4) f_Reader_read_sum fd_Reader_read_sum ["self", "level"] (sp_read_sum K a_Reader a_BadForm (d + 1)) := ok_Reader_read_sum (k := kb + 5 * d + 3) (d := d) T_Reader D_Reader_read_sum C_BadForm D_Reader_read_product N2 (by omega) D_Reader_ahead G_Reader_ahead (by omega) D_Reader_take G_Reader_take (by omega) m_SUMS KD_SUMS d_SUMS
    have N5 : FnOk P w K mg base (L2N.CX P w) (kb + 5 * d + 5) f_Reader_read_args fd_Reader_read_args ["self", "level", "many"] (sp_read_args K a_Reader a_BadForm (d + 1)) := ok_Reader_read_args (k := kb + 5 * d + 4) (d := d) T_Reader D_Reader_read_args C_BadForm D_Reader_demand G_Reader_demand (by omega) D_Reader_read_sum N1 (by omega) b_len b_tuple
    exact ⟨N1.mono (by omega), N2.mono (by omega), N3.mono (by omega), N4.mono (by omega), N5.mono (by omega)⟩
theorem all_plain {f_plain_text : Addr} {fd_plain_text : FuncData} (D_plain_text : DefAt K mg "plain_text" s_plain_text ["tree"] f_plain_text fd_plain_text) {f_operand_text : Addr} {fd_operand_text : FuncData} (D_operand_text : DefAt K mg "operand_text" s_operand_text ["tree", "least"] f_operand_text fd_operand_text) {f_single_text : Addr} {fd_single_text : FuncData} (D_single_text : DefAt K mg "single_text" s_single_text ["tree"] f_single_text fd_single_text) {f_unrolled : Addr} {fd_unrolled : FuncData} {k_unrolled : Nat} (D_unrolled : DefAt K mg "unrolled" s_unrolled ["tree"] f_unrolled fd_unrolled) (G_unrolled : FnOk P w K mg base CX0 k_unrolled f_unrolled fd_unrolled ["tree"] (sp_unrolled K)) (b_str : mg "str" = none) {t_SINGLE : Tok} (m_SINGLE : mg "SINGLE" = some (.int 3 t_SINGLE)) {a_RANKS : Addr} {es_RANKS : Array DictEntry} {n_RANKS : Nat} (m_RANKS : mg "RANKS" = some (.ref a_RANKS)) (KD_RANKS : KDict K w a_RANKS es_RANKS n_RANKS) (d_RANKS : KdAt K a_RANKS ranksL) {a_MARKS_OF : Addr} {es_MARKS_OF : Array DictEntry} {n_MARKS_OF : Nat} (m_MARKS_OF : mg "MARKS_OF" = some (.ref a_MARKS_OF)) (KD_MARKS_OF : KDict K w a_MARKS_OF es_MARKS_OF n_MARKS_OF) (d_MARKS_OF : KdAt K a_MARKS_OF marksOfL) {kb : Nat} (hk_unrolled : k_unrolled ≤ kb) :
    ∀ d, FnOk P w K mg base CX0 (kb + 1 + d) f_plain_text fd_plain_text ["tree"] (sp_plain_text K d) := by
  have op : ∀ d, FnOk P w K mg base CX0 (kb + 1 + d) f_plain_text fd_plain_text ["tree"] (sp_plain_text K d) → FnOk P w K mg base CX0 (kb + 1 + d + 1) f_operand_text fd_operand_text ["tree", "least"] (sp_operand_text K d) := fun d N => ok_operand_text (k := kb + 1 + d) (d := d) D_operand_text  D_plain_text N (by omega) m_SINGLE m_RANKS KD_RANKS d_RANKS
  intro d
  induction d using Nat.strongRecOn with
  | ind d ih =>
    match d, ih with
    | 0, _ => exact fn_vac fun vs H Q E h => vac_plain (by omega) h
    | 1, _ => exact fn_vac fun vs H Q E h => vac_plain (by omega) h
    | d + 2, ih =>
      have PO := op d (ih d (by omega))
      have SG : FnOk P w K mg base CX0 (kb + 1 + d + 1) f_single_text fd_single_text ["tree"] (sp_single_text K (d + 2)) := by
        match d, ih with
        | 0, ih =>
          have N : FnOk P w K mg base CX0 (kb + 1) f_plain_text fd_plain_text ["tree"] (sp_plain_text K 1) := fn_vac fun vs H Q E h => vac_plain (by omega) h
          have N' : FnOk P w K mg base CX0 (kb + 1) f_operand_text fd_operand_text ["tree", "least"] (sp_operand_text K 0) := fn_vac fun vs H Q E h => vac_operand h
          exact (ok_single_text (k := kb + 1) (d := 0) D_single_text  D_operand_text N' (by omega) D_plain_text N (by omega) b_str m_SINGLE).imp fun vs H Q E h => single_up h
        | e + 1, ih =>
          have N' := op e (ih e (by omega))
          have N := ih (e + 1) (by omega)
          exact (ok_single_text (k := kb + 1 + e + 1) (d := e) D_single_text  D_operand_text N' (by omega) D_plain_text N (by omega) b_str m_SINGLE).mono (by omega)
      exact (ok_plain_text (k := kb + 1 + d + 1) (d := d) D_plain_text  D_unrolled G_unrolled (by omega) D_single_text SG (by omega) D_operand_text PO (by omega) m_SINGLE m_RANKS KD_RANKS d_RANKS m_MARKS_OF KD_MARKS_OF d_MARKS_OF).mono (by omega)
theorem all_law_plain {f_1 f_2 : Addr} {fd_1 fd_2 : FuncData} (D_1 : DefAt K mg "_law_plain" s_law_plain26 ["tree", "extra"] f_1 fd_1) (D_2 : DefAt K mg "_law_operand" s_law_operand ["tree", "least", "extra"] f_2 fd_2) {f__law_rank : Addr} {fd__law_rank : FuncData} {k__law_rank : Nat} (D__law_rank : DefAt K mg "_law_rank" s_law_rank ["tree"] f__law_rank fd__law_rank) (G__law_rank : FnOk P w K mg base CX0 k__law_rank f__law_rank fd__law_rank ["tree"] (sp_law_rank K)) (b_str : mg "str" = none) (b_int : mg "int" = none) {kb : Nat} (hk__law_rank : k__law_rank ≤ kb) :
    ∀ d, FnOk P w K mg base CX0 (kb + 2 * d) f_1 fd_1 ["tree", "extra"] (sp_law_plain26 K d) ∧ FnOk P w K mg base CX0 (kb + 2 * d + 1) f_2 fd_2 ["tree", "least", "extra"] (sp_law_operand K d)
  | 0 => by
    have N : FnOk P w K mg base CX0 kb f_1 fd_1 ["tree", "extra"] (sp_law_plain26 K 0) := fn_vac fun vs H Q E h => vac_law_plain26 h
    exact ⟨N, ok_law_operand (k := kb) D_2  D_1 N (by omega) D__law_rank G__law_rank (by omega)⟩
  | d + 1 => by
    have ih := all_law_plain D_1 D_2  D__law_rank G__law_rank b_str b_int  hk__law_rank d
    have N : FnOk P w K mg base CX0 (kb + 2 * d + 2) f_1 fd_1 ["tree", "extra"] (sp_law_plain26 K (d + 1)) := ok_law_plain26 (k := kb + 2 * d + 1) D_1  D_2 ih.2 (by omega) D__law_rank G__law_rank (by omega) b_str b_int (ih.1.mono (by omega))
    exact ⟨N, ok_law_operand (k := kb + 2 * d + 2) D_2  D_1 N (by omega) D__law_rank G__law_rank (by omega)⟩
theorem all_law_tree {f : Addr} {fd : FuncData} (D : DefAt K mg "_law_tree" s_law_tree ["row", "state", "depth", "names"] f fd) {f__law_next : Addr} {fd__law_next : FuncData} (D__law_next : DefAt K mg "_law_next" s_law_next ["row", "state"] f__law_next fd__law_next) (G__law_next : FnOk P w K mg base CX0 2 f__law_next fd__law_next ["row", "state"] (sp_law_next K)) (b_len : mg "len" = none) (b_range : mg "range" = none) (b_tuple : mg "tuple" = none) : ∀ d, FnOk P w K mg base CX0 (d + 2) f fd ["row", "state", "depth", "names"] (sp_law_tree K d)
  | 0 => fn_vac fun vs H Q E h => vac_law_tree h
  | d + 1 => ok_law_tree (k := d + 2) D  D__law_next G__law_next (by omega) b_len b_range b_tuple  (all_law_tree D  D__law_next G__law_next b_len b_range b_tuple  d)
theorem all_law_levels26 {f : Addr} {fd : FuncData} (D : DefAt K mg "_law_levels" s_law_levels26 ["tree"] f fd) (b_max : mg "max" = none) : ∀ d, FnOk P w K mg base CX0 (d + 0) f fd ["tree"] (sp_law_levels26 K d)
  | 0 => fn_vac fun vs H Q E h => vac_law_levels26 h
  | d + 1 => ok_law_levels26 (k := d + 0) D   b_max  (all_law_levels26 D   b_max  d)
theorem all_law_names26 {f : Addr} {fd : FuncData} (D : DefAt K mg "_law_names" s_law_names26 ["tree"] f fd) : ∀ d, FnOk P w K mg base CX0 (d + 0) f fd ["tree"] (sp_law_names26 K d)
  | 0 => fn_vac fun vs H Q E h => vac_law_names26 h
  | d + 1 => ok_law_names26 (k := d + 0) D     (all_law_names26 D     d)
end
theorem all_mk {l : PySem.W.OpenLaw} {w : World} {K : PySem.W.Frag} {h : Heap} {mg : Str → Option Value} {fa : Addr} {a_Reader : Addr} {f_run_of : Addr} {od_run_of an_run_of : Option Addr} {sl_run_of : Array (Option Value)} {oc_run_of kV_run_of dc_run_of pm_run_of cd_run_of ct_run_of : Value} {f_token_at : Addr} {od_token_at an_token_at : Option Addr} {sl_token_at : Array (Option Value)} {oc_token_at kV_token_at dc_token_at pm_token_at cd_token_at ct_token_at : Value} {f_tokens : Addr} {od_tokens an_tokens : Option Addr} {sl_tokens : Array (Option Value)} {oc_tokens kV_tokens dc_tokens pm_tokens cd_tokens ct_tokens : Value} {f_is_name : Addr} {od_is_name an_is_name : Option Addr} {sl_is_name : Array (Option Value)} {oc_is_name kV_is_name dc_is_name pm_is_name cd_is_name ct_is_name : Value} {f_is_integer : Addr} {od_is_integer an_is_integer : Option Addr} {sl_is_integer : Array (Option Value)} {oc_is_integer kV_is_integer dc_is_integer pm_is_integer cd_is_integer ct_is_integer : Value} {f_deeper : Addr} {od_deeper an_deeper : Option Addr} {sl_deeper : Array (Option Value)} {oc_deeper kV_deeper dc_deeper pm_deeper cd_deeper ct_deeper : Value} {f_Reader_init : Addr} {od_Reader_init an_Reader_init : Option Addr} {sl_Reader_init : Array (Option Value)} {oc_Reader_init kV_Reader_init dc_Reader_init pm_Reader_init cd_Reader_init ct_Reader_init : Value} {f_Reader_ahead : Addr} {od_Reader_ahead an_Reader_ahead : Option Addr} {sl_Reader_ahead : Array (Option Value)} {oc_Reader_ahead kV_Reader_ahead dc_Reader_ahead pm_Reader_ahead cd_Reader_ahead ct_Reader_ahead : Value} {f_Reader_take : Addr} {od_Reader_take an_Reader_take : Option Addr} {sl_Reader_take : Array (Option Value)} {oc_Reader_take kV_Reader_take dc_Reader_take pm_Reader_take cd_Reader_take ct_Reader_take : Value} {f_Reader_skip : Addr} {od_Reader_skip an_Reader_skip : Option Addr} {sl_Reader_skip : Array (Option Value)} {oc_Reader_skip kV_Reader_skip dc_Reader_skip pm_Reader_skip cd_Reader_skip ct_Reader_skip : Value} {f_Reader_demand : Addr} {od_Reader_demand an_Reader_demand : Option Addr} {sl_Reader_demand : Array (Option Value)} {oc_Reader_demand kV_Reader_demand dc_Reader_demand pm_Reader_demand cd_Reader_demand ct_Reader_demand : Value} {f_Reader_read_args : Addr} {od_Reader_read_args an_Reader_read_args : Option Addr} {sl_Reader_read_args : Array (Option Value)} {oc_Reader_read_args kV_Reader_read_args dc_Reader_read_args pm_Reader_read_args cd_Reader_read_args ct_Reader_read_args : Value} {f_Reader_read_part : Addr} {od_Reader_read_part an_Reader_read_part : Option Addr} {sl_Reader_read_part : Array (Option Value)} {oc_Reader_read_part kV_Reader_read_part dc_Reader_read_part pm_Reader_read_part cd_Reader_read_part ct_Reader_read_part : Value} {f_Reader_read_sign : Addr} {od_Reader_read_sign an_Reader_read_sign : Option Addr} {sl_Reader_read_sign : Array (Option Value)} {oc_Reader_read_sign kV_Reader_read_sign dc_Reader_read_sign pm_Reader_read_sign cd_Reader_read_sign ct_Reader_read_sign : Value} {f_Reader_read_product : Addr} {od_Reader_read_product an_Reader_read_product : Option Addr} {sl_Reader_read_product : Array (Option Value)} {oc_Reader_read_product kV_Reader_read_product dc_Reader_read_product pm_Reader_read_product cd_Reader_read_product ct_Reader_read_product : Value} {f_Reader_read_sum : Addr} {od_Reader_read_sum an_Reader_read_sum : Option Addr} {sl_Reader_read_sum : Array (Option Value)} {oc_Reader_read_sum kV_Reader_read_sum dc_Reader_read_sum pm_Reader_read_sum cd_Reader_read_sum ct_Reader_read_sum : Value} {f_Reader_check_end : Addr} {od_Reader_check_end an_Reader_check_end : Option Addr} {sl_Reader_check_end : Array (Option Value)} {oc_Reader_check_end kV_Reader_check_end dc_Reader_check_end pm_Reader_check_end cd_Reader_check_end ct_Reader_check_end : Value} {f_read_formula : Addr} {od_read_formula an_read_formula : Option Addr} {sl_read_formula : Array (Option Value)} {oc_read_formula kV_read_formula dc_read_formula pm_read_formula cd_read_formula ct_read_formula : Value} {f_unrolled : Addr} {od_unrolled an_unrolled : Option Addr} {sl_unrolled : Array (Option Value)} {oc_unrolled kV_unrolled dc_unrolled pm_unrolled cd_unrolled ct_unrolled : Value} {f_trees_in : Addr} {od_trees_in an_trees_in : Option Addr} {sl_trees_in : Array (Option Value)} {oc_trees_in kV_trees_in dc_trees_in pm_trees_in cd_trees_in ct_trees_in : Value} {f_names_of : Addr} {od_names_of an_names_of : Option Addr} {sl_names_of : Array (Option Value)} {oc_names_of kV_names_of dc_names_of pm_names_of cd_names_of ct_names_of : Value} {f_operand_text : Addr} {od_operand_text an_operand_text : Option Addr} {sl_operand_text : Array (Option Value)} {oc_operand_text kV_operand_text dc_operand_text pm_operand_text cd_operand_text ct_operand_text : Value} {f_single_text : Addr} {od_single_text an_single_text : Option Addr} {sl_single_text : Array (Option Value)} {oc_single_text kV_single_text dc_single_text pm_single_text cd_single_text ct_single_text : Value} {f_plain_text : Addr} {od_plain_text an_plain_text : Option Addr} {sl_plain_text : Array (Option Value)} {oc_plain_text kV_plain_text dc_plain_text pm_plain_text cd_plain_text ct_plain_text : Value} {f_law_row : Addr} {od_law_row an_law_row : Option Addr} {sl_law_row : Array (Option Value)} {oc_law_row kV_law_row dc_law_row pm_law_row cd_law_row ct_law_row : Value} {f_law_at : Addr} {od_law_at an_law_at : Option Addr} {sl_law_at : Array (Option Value)} {oc_law_at kV_law_at dc_law_at pm_law_at cd_law_at ct_law_at : Value} {f_law_next : Addr} {od_law_next an_law_next : Option Addr} {sl_law_next : Array (Option Value)} {oc_law_next kV_law_next dc_law_next pm_law_next cd_law_next ct_law_next : Value} {f_law_tree : Addr} {od_law_tree an_law_tree : Option Addr} {sl_law_tree : Array (Option Value)} {oc_law_tree kV_law_tree dc_law_tree pm_law_tree cd_law_tree ct_law_tree : Value} {f_law_rank : Addr} {od_law_rank an_law_rank : Option Addr} {sl_law_rank : Array (Option Value)} {oc_law_rank kV_law_rank dc_law_rank pm_law_rank cd_law_rank ct_law_rank : Value} {f_law_plain26 : Addr} {od_law_plain26 an_law_plain26 : Option Addr} {sl_law_plain26 : Array (Option Value)} {oc_law_plain26 kV_law_plain26 dc_law_plain26 pm_law_plain26 cd_law_plain26 ct_law_plain26 : Value} {f_law_operand : Addr} {od_law_operand an_law_operand : Option Addr} {sl_law_operand : Array (Option Value)} {oc_law_operand kV_law_operand dc_law_operand pm_law_operand cd_law_operand ct_law_operand : Value} {f_law_levels26 : Addr} {od_law_levels26 an_law_levels26 : Option Addr} {sl_law_levels26 : Array (Option Value)} {oc_law_levels26 kV_law_levels26 dc_law_levels26 pm_law_levels26 cd_law_levels26 ct_law_levels26 : Value} {f_law_names26 : Addr} {od_law_names26 an_law_names26 : Option Addr} {sl_law_names26 : Array (Option Value)} {oc_law_names26 kV_law_names26 dc_law_names26 pm_law_names26 cd_law_names26 ct_law_names26 : Value} {f_law_once26 : Addr} {od_law_once26 an_law_once26 : Option Addr} {sl_law_once26 : Array (Option Value)} {oc_law_once26 kV_law_once26 dc_law_once26 pm_law_once26 cd_law_once26 ct_law_once26 : Value} {f_law : Addr} {od_law an_law : Option Addr} {sl_law : Array (Option Value)} {oc_law kV_law dc_law pm_law cd_law ct_law : Value} {a_BadForm : Addr} {a_ReckonError : Addr} {f_c_ReckonError T_c_ReckonError : Addr} {od_c_ReckonError od2_c_ReckonError an_c_ReckonError : Option Addr} {sl_c_ReckonError sl2_c_ReckonError : Array (Option Value)} {oc_c_ReckonError oc2_c_ReckonError kV_c_ReckonError dc_c_ReckonError pm_c_ReckonError cd_c_ReckonError ct_c_ReckonError : Value} {n_c_ReckonError : Nat} {tk_c_ReckonError tk2_c_ReckonError : Tok} {f_c_BadForm T_c_BadForm : Addr} {od_c_BadForm od2_c_BadForm an_c_BadForm : Option Addr} {sl_c_BadForm sl2_c_BadForm : Array (Option Value)} {oc_c_BadForm oc2_c_BadForm kV_c_BadForm dc_c_BadForm pm_c_BadForm cd_c_BadForm ct_c_BadForm : Value} {n_c_BadForm : Nat} {tk_c_BadForm  : Tok} {q_BadForm : Str} {N_BadForm : Addr} {bs_BadForm bm_BadForm sub_BadForm : List Value} {sn_BadForm : List Str} {ab_BadForm : Bool} {col_BadForm : Option Bool} {dd_BadForm : Option Addr} {k0_BadForm k1_BadForm k2_BadForm k3_BadForm k5_BadForm : Option Value} {t_DIGITS : Tok} {t_LETTERS : Tok} {t_MAX_FIGURES : Tok} {t_MAX_LEVELS : Tok} {t_MAX_NAME : Tok} {t_MAX_TEXT : Tok} {t_SINGLE : Tok} {t_SMALL_LETTERS : Tok} {a_KEYWORDS : Addr} {a_MARKS : Addr} {a_OPERATIONS : Addr} {a_FUNCTIONS : Addr} {es_FUNCTIONS : Array DictEntry} {n_FUNCTIONS : Nat} {a_MARKS_OF : Addr} {es_MARKS_OF : Array DictEntry} {n_MARKS_OF : Nat} {a_PRODUCTS : Addr} {es_PRODUCTS : Array DictEntry} {n_PRODUCTS : Nat} {a_RANKS : Addr} {es_RANKS : Array DictEntry} {n_RANKS : Nat} {a_SIGNS : Addr} {es_SIGNS : Array DictEntry} {n_SIGNS : Nat} {a_SUMS : Addr} {es_SUMS : Array DictEntry} {n_SUMS : Nat} (X : K.In h) (G : h.Ns mainGlobals mg) (hfa : mg "law" = some (.ref fa))
    (u1_Reader : PySem.W.nsIn K mainGlobals "Reader" = some (some (.ref a_Reader)))
    (u2_Reader : PySem.W.plainGet K a_Reader Str.empty = true)
    (u3_Reader : PySem.W.hasDictIn K a_Reader = true)
    (u4_Reader : PySem.W.plainOver K a_Reader = true)
    (u5_Reader : PySem.W.findIn K (.ref a_Reader) "__setattr__" = some (some (.builtin "object.__setattr__")))
    (u6_Reader : PySem.W.makesIn K a_Reader = true)
    (u7_Reader : PySem.W.keepIn K (.ref a_Reader) = true)
    (u8_Reader_at : PySem.W.findIn K (.ref a_Reader) "at" = some none)
    (u8_Reader_parts : PySem.W.findIn K (.ref a_Reader) "parts" = some none)
    (a_run_of : PySem.W.nsIn K mainGlobals "run_of" = some (some (.ref f_run_of)))
    (l_run_of : K.lookup f_run_of = some ⟨oc_run_of, od_run_of, .func (PySem.W.fnOf "run_of" "run_of" (defArgs s_run_of) (defBody s_run_of) (defScope s_run_of) .none kV_run_of dc_run_of pm_run_of an_run_of cd_run_of ct_run_of), sl_run_of⟩)
    (c_run_of : PySem.W.codeIn K cd_run_of "run_of" = true)
    (k_run_of : PySem.W.keepIn K (.ref f_run_of) = true)
    (a_token_at : PySem.W.nsIn K mainGlobals "token_at" = some (some (.ref f_token_at)))
    (l_token_at : K.lookup f_token_at = some ⟨oc_token_at, od_token_at, .func (PySem.W.fnOf "token_at" "token_at" (defArgs s_token_at) (defBody s_token_at) (defScope s_token_at) .none kV_token_at dc_token_at pm_token_at an_token_at cd_token_at ct_token_at), sl_token_at⟩)
    (c_token_at : PySem.W.codeIn K cd_token_at "token_at" = true)
    (k_token_at : PySem.W.keepIn K (.ref f_token_at) = true)
    (a_tokens : PySem.W.nsIn K mainGlobals "tokens" = some (some (.ref f_tokens)))
    (l_tokens : K.lookup f_tokens = some ⟨oc_tokens, od_tokens, .func (PySem.W.fnOf "tokens" "tokens" (defArgs s_tokens) (defBody s_tokens) (defScope s_tokens) .none kV_tokens dc_tokens pm_tokens an_tokens cd_tokens ct_tokens), sl_tokens⟩)
    (c_tokens : PySem.W.codeIn K cd_tokens "tokens" = true)
    (k_tokens : PySem.W.keepIn K (.ref f_tokens) = true)
    (a_is_name : PySem.W.nsIn K mainGlobals "is_name" = some (some (.ref f_is_name)))
    (l_is_name : K.lookup f_is_name = some ⟨oc_is_name, od_is_name, .func (PySem.W.fnOf "is_name" "is_name" (defArgs s_is_name) (defBody s_is_name) (defScope s_is_name) .none kV_is_name dc_is_name pm_is_name an_is_name cd_is_name ct_is_name), sl_is_name⟩)
    (c_is_name : PySem.W.codeIn K cd_is_name "is_name" = true)
    (k_is_name : PySem.W.keepIn K (.ref f_is_name) = true)
    (a_is_integer : PySem.W.nsIn K mainGlobals "is_integer" = some (some (.ref f_is_integer)))
    (l_is_integer : K.lookup f_is_integer = some ⟨oc_is_integer, od_is_integer, .func (PySem.W.fnOf "is_integer" "is_integer" (defArgs s_is_integer) (defBody s_is_integer) (defScope s_is_integer) .none kV_is_integer dc_is_integer pm_is_integer an_is_integer cd_is_integer ct_is_integer), sl_is_integer⟩)
    (c_is_integer : PySem.W.codeIn K cd_is_integer "is_integer" = true)
    (k_is_integer : PySem.W.keepIn K (.ref f_is_integer) = true)
    (a_deeper : PySem.W.nsIn K mainGlobals "deeper" = some (some (.ref f_deeper)))
    (l_deeper : K.lookup f_deeper = some ⟨oc_deeper, od_deeper, .func (PySem.W.fnOf "deeper" "deeper" (defArgs s_deeper) (defBody s_deeper) (defScope s_deeper) .none kV_deeper dc_deeper pm_deeper an_deeper cd_deeper ct_deeper), sl_deeper⟩)
    (c_deeper : PySem.W.codeIn K cd_deeper "deeper" = true)
    (k_deeper : PySem.W.keepIn K (.ref f_deeper) = true)
    (a_Reader_init : PySem.W.findIn K (.ref a_Reader) "__init__" = some (some (.ref f_Reader_init)))
    (i_Reader_init : PySem.W.isFn K (.ref f_Reader_init) = true)
    (l_Reader_init : K.lookup f_Reader_init = some ⟨oc_Reader_init, od_Reader_init, .func (PySem.W.fnOf "__init__" "Reader.__init__" (defArgs s_Reader_init) (defBody s_Reader_init) (defScope s_Reader_init) .none kV_Reader_init dc_Reader_init pm_Reader_init an_Reader_init cd_Reader_init ct_Reader_init), sl_Reader_init⟩)
    (c_Reader_init : PySem.W.codeIn K cd_Reader_init "Reader.__init__" = true)
    (k_Reader_init : PySem.W.keepIn K (.ref f_Reader_init) = true)
    (a_Reader_ahead : PySem.W.findIn K (.ref a_Reader) "ahead" = some (some (.ref f_Reader_ahead)))
    (i_Reader_ahead : PySem.W.isFn K (.ref f_Reader_ahead) = true)
    (l_Reader_ahead : K.lookup f_Reader_ahead = some ⟨oc_Reader_ahead, od_Reader_ahead, .func (PySem.W.fnOf "ahead" "Reader.ahead" (defArgs s_Reader_ahead) (defBody s_Reader_ahead) (defScope s_Reader_ahead) .none kV_Reader_ahead dc_Reader_ahead pm_Reader_ahead an_Reader_ahead cd_Reader_ahead ct_Reader_ahead), sl_Reader_ahead⟩)
    (c_Reader_ahead : PySem.W.codeIn K cd_Reader_ahead "Reader.ahead" = true)
    (k_Reader_ahead : PySem.W.keepIn K (.ref f_Reader_ahead) = true)
    (a_Reader_take : PySem.W.findIn K (.ref a_Reader) "take" = some (some (.ref f_Reader_take)))
    (i_Reader_take : PySem.W.isFn K (.ref f_Reader_take) = true)
    (l_Reader_take : K.lookup f_Reader_take = some ⟨oc_Reader_take, od_Reader_take, .func (PySem.W.fnOf "take" "Reader.take" (defArgs s_Reader_take) (defBody s_Reader_take) (defScope s_Reader_take) .none kV_Reader_take dc_Reader_take pm_Reader_take an_Reader_take cd_Reader_take ct_Reader_take), sl_Reader_take⟩)
    (c_Reader_take : PySem.W.codeIn K cd_Reader_take "Reader.take" = true)
    (k_Reader_take : PySem.W.keepIn K (.ref f_Reader_take) = true)
    (a_Reader_skip : PySem.W.findIn K (.ref a_Reader) "skip" = some (some (.ref f_Reader_skip)))
    (i_Reader_skip : PySem.W.isFn K (.ref f_Reader_skip) = true)
    (l_Reader_skip : K.lookup f_Reader_skip = some ⟨oc_Reader_skip, od_Reader_skip, .func (PySem.W.fnOf "skip" "Reader.skip" (defArgs s_Reader_skip) (defBody s_Reader_skip) (defScope s_Reader_skip) .none kV_Reader_skip dc_Reader_skip pm_Reader_skip an_Reader_skip cd_Reader_skip ct_Reader_skip), sl_Reader_skip⟩)
    (c_Reader_skip : PySem.W.codeIn K cd_Reader_skip "Reader.skip" = true)
    (k_Reader_skip : PySem.W.keepIn K (.ref f_Reader_skip) = true)
    (a_Reader_demand : PySem.W.findIn K (.ref a_Reader) "demand" = some (some (.ref f_Reader_demand)))
    (i_Reader_demand : PySem.W.isFn K (.ref f_Reader_demand) = true)
    (l_Reader_demand : K.lookup f_Reader_demand = some ⟨oc_Reader_demand, od_Reader_demand, .func (PySem.W.fnOf "demand" "Reader.demand" (defArgs s_Reader_demand) (defBody s_Reader_demand) (defScope s_Reader_demand) .none kV_Reader_demand dc_Reader_demand pm_Reader_demand an_Reader_demand cd_Reader_demand ct_Reader_demand), sl_Reader_demand⟩)
    (c_Reader_demand : PySem.W.codeIn K cd_Reader_demand "Reader.demand" = true)
    (k_Reader_demand : PySem.W.keepIn K (.ref f_Reader_demand) = true)
    (a_Reader_read_args : PySem.W.findIn K (.ref a_Reader) "read_args" = some (some (.ref f_Reader_read_args)))
    (i_Reader_read_args : PySem.W.isFn K (.ref f_Reader_read_args) = true)
    (l_Reader_read_args : K.lookup f_Reader_read_args = some ⟨oc_Reader_read_args, od_Reader_read_args, .func (PySem.W.fnOf "read_args" "Reader.read_args" (defArgs s_Reader_read_args) (defBody s_Reader_read_args) (defScope s_Reader_read_args) .none kV_Reader_read_args dc_Reader_read_args pm_Reader_read_args an_Reader_read_args cd_Reader_read_args ct_Reader_read_args), sl_Reader_read_args⟩)
    (c_Reader_read_args : PySem.W.codeIn K cd_Reader_read_args "Reader.read_args" = true)
    (k_Reader_read_args : PySem.W.keepIn K (.ref f_Reader_read_args) = true)
    (a_Reader_read_part : PySem.W.findIn K (.ref a_Reader) "read_part" = some (some (.ref f_Reader_read_part)))
    (i_Reader_read_part : PySem.W.isFn K (.ref f_Reader_read_part) = true)
    (l_Reader_read_part : K.lookup f_Reader_read_part = some ⟨oc_Reader_read_part, od_Reader_read_part, .func (PySem.W.fnOf "read_part" "Reader.read_part" (defArgs s_Reader_read_part) (defBody s_Reader_read_part) (defScope s_Reader_read_part) .none kV_Reader_read_part dc_Reader_read_part pm_Reader_read_part an_Reader_read_part cd_Reader_read_part ct_Reader_read_part), sl_Reader_read_part⟩)
    (c_Reader_read_part : PySem.W.codeIn K cd_Reader_read_part "Reader.read_part" = true)
    (k_Reader_read_part : PySem.W.keepIn K (.ref f_Reader_read_part) = true)
    (a_Reader_read_sign : PySem.W.findIn K (.ref a_Reader) "read_sign" = some (some (.ref f_Reader_read_sign)))
    (i_Reader_read_sign : PySem.W.isFn K (.ref f_Reader_read_sign) = true)
    (l_Reader_read_sign : K.lookup f_Reader_read_sign = some ⟨oc_Reader_read_sign, od_Reader_read_sign, .func (PySem.W.fnOf "read_sign" "Reader.read_sign" (defArgs s_Reader_read_sign) (defBody s_Reader_read_sign) (defScope s_Reader_read_sign) .none kV_Reader_read_sign dc_Reader_read_sign pm_Reader_read_sign an_Reader_read_sign cd_Reader_read_sign ct_Reader_read_sign), sl_Reader_read_sign⟩)
    (c_Reader_read_sign : PySem.W.codeIn K cd_Reader_read_sign "Reader.read_sign" = true)
    (k_Reader_read_sign : PySem.W.keepIn K (.ref f_Reader_read_sign) = true)
    (a_Reader_read_product : PySem.W.findIn K (.ref a_Reader) "read_product" = some (some (.ref f_Reader_read_product)))
    (i_Reader_read_product : PySem.W.isFn K (.ref f_Reader_read_product) = true)
    (l_Reader_read_product : K.lookup f_Reader_read_product = some ⟨oc_Reader_read_product, od_Reader_read_product, .func (PySem.W.fnOf "read_product" "Reader.read_product" (defArgs s_Reader_read_product) (defBody s_Reader_read_product) (defScope s_Reader_read_product) .none kV_Reader_read_product dc_Reader_read_product pm_Reader_read_product an_Reader_read_product cd_Reader_read_product ct_Reader_read_product), sl_Reader_read_product⟩)
    (c_Reader_read_product : PySem.W.codeIn K cd_Reader_read_product "Reader.read_product" = true)
    (k_Reader_read_product : PySem.W.keepIn K (.ref f_Reader_read_product) = true)
    (a_Reader_read_sum : PySem.W.findIn K (.ref a_Reader) "read_sum" = some (some (.ref f_Reader_read_sum)))
    (i_Reader_read_sum : PySem.W.isFn K (.ref f_Reader_read_sum) = true)
    (l_Reader_read_sum : K.lookup f_Reader_read_sum = some ⟨oc_Reader_read_sum, od_Reader_read_sum, .func (PySem.W.fnOf "read_sum" "Reader.read_sum" (defArgs s_Reader_read_sum) (defBody s_Reader_read_sum) (defScope s_Reader_read_sum) .none kV_Reader_read_sum dc_Reader_read_sum pm_Reader_read_sum an_Reader_read_sum cd_Reader_read_sum ct_Reader_read_sum), sl_Reader_read_sum⟩)
    (c_Reader_read_sum : PySem.W.codeIn K cd_Reader_read_sum "Reader.read_sum" = true)
    (k_Reader_read_sum : PySem.W.keepIn K (.ref f_Reader_read_sum) = true)
    (a_Reader_check_end : PySem.W.findIn K (.ref a_Reader) "check_end" = some (some (.ref f_Reader_check_end)))
    (i_Reader_check_end : PySem.W.isFn K (.ref f_Reader_check_end) = true)
    (l_Reader_check_end : K.lookup f_Reader_check_end = some ⟨oc_Reader_check_end, od_Reader_check_end, .func (PySem.W.fnOf "check_end" "Reader.check_end" (defArgs s_Reader_check_end) (defBody s_Reader_check_end) (defScope s_Reader_check_end) .none kV_Reader_check_end dc_Reader_check_end pm_Reader_check_end an_Reader_check_end cd_Reader_check_end ct_Reader_check_end), sl_Reader_check_end⟩)
    (c_Reader_check_end : PySem.W.codeIn K cd_Reader_check_end "Reader.check_end" = true)
    (k_Reader_check_end : PySem.W.keepIn K (.ref f_Reader_check_end) = true)
    (a_read_formula : PySem.W.nsIn K mainGlobals "read_formula" = some (some (.ref f_read_formula)))
    (l_read_formula : K.lookup f_read_formula = some ⟨oc_read_formula, od_read_formula, .func (PySem.W.fnOf "read_formula" "read_formula" (defArgs s_read_formula) (defBody s_read_formula) (defScope s_read_formula) .none kV_read_formula dc_read_formula pm_read_formula an_read_formula cd_read_formula ct_read_formula), sl_read_formula⟩)
    (c_read_formula : PySem.W.codeIn K cd_read_formula "read_formula" = true)
    (k_read_formula : PySem.W.keepIn K (.ref f_read_formula) = true)
    (a_unrolled : PySem.W.nsIn K mainGlobals "unrolled" = some (some (.ref f_unrolled)))
    (l_unrolled : K.lookup f_unrolled = some ⟨oc_unrolled, od_unrolled, .func (PySem.W.fnOf "unrolled" "unrolled" (defArgs s_unrolled) (defBody s_unrolled) (defScope s_unrolled) .none kV_unrolled dc_unrolled pm_unrolled an_unrolled cd_unrolled ct_unrolled), sl_unrolled⟩)
    (c_unrolled : PySem.W.codeIn K cd_unrolled "unrolled" = true)
    (k_unrolled : PySem.W.keepIn K (.ref f_unrolled) = true)
    (a_trees_in : PySem.W.nsIn K mainGlobals "trees_in" = some (some (.ref f_trees_in)))
    (l_trees_in : K.lookup f_trees_in = some ⟨oc_trees_in, od_trees_in, .func (PySem.W.fnOf "trees_in" "trees_in" (defArgs s_trees_in) (defBody s_trees_in) (defScope s_trees_in) .none kV_trees_in dc_trees_in pm_trees_in an_trees_in cd_trees_in ct_trees_in), sl_trees_in⟩)
    (c_trees_in : PySem.W.codeIn K cd_trees_in "trees_in" = true)
    (k_trees_in : PySem.W.keepIn K (.ref f_trees_in) = true)
    (a_names_of : PySem.W.nsIn K mainGlobals "names_of" = some (some (.ref f_names_of)))
    (l_names_of : K.lookup f_names_of = some ⟨oc_names_of, od_names_of, .func (PySem.W.fnOf "names_of" "names_of" (defArgs s_names_of) (defBody s_names_of) (defScope s_names_of) .none kV_names_of dc_names_of pm_names_of an_names_of cd_names_of ct_names_of), sl_names_of⟩)
    (c_names_of : PySem.W.codeIn K cd_names_of "names_of" = true)
    (k_names_of : PySem.W.keepIn K (.ref f_names_of) = true)
    (a_operand_text : PySem.W.nsIn K mainGlobals "operand_text" = some (some (.ref f_operand_text)))
    (l_operand_text : K.lookup f_operand_text = some ⟨oc_operand_text, od_operand_text, .func (PySem.W.fnOf "operand_text" "operand_text" (defArgs s_operand_text) (defBody s_operand_text) (defScope s_operand_text) .none kV_operand_text dc_operand_text pm_operand_text an_operand_text cd_operand_text ct_operand_text), sl_operand_text⟩)
    (c_operand_text : PySem.W.codeIn K cd_operand_text "operand_text" = true)
    (k_operand_text : PySem.W.keepIn K (.ref f_operand_text) = true)
    (a_single_text : PySem.W.nsIn K mainGlobals "single_text" = some (some (.ref f_single_text)))
    (l_single_text : K.lookup f_single_text = some ⟨oc_single_text, od_single_text, .func (PySem.W.fnOf "single_text" "single_text" (defArgs s_single_text) (defBody s_single_text) (defScope s_single_text) .none kV_single_text dc_single_text pm_single_text an_single_text cd_single_text ct_single_text), sl_single_text⟩)
    (c_single_text : PySem.W.codeIn K cd_single_text "single_text" = true)
    (k_single_text : PySem.W.keepIn K (.ref f_single_text) = true)
    (a_plain_text : PySem.W.nsIn K mainGlobals "plain_text" = some (some (.ref f_plain_text)))
    (l_plain_text : K.lookup f_plain_text = some ⟨oc_plain_text, od_plain_text, .func (PySem.W.fnOf "plain_text" "plain_text" (defArgs s_plain_text) (defBody s_plain_text) (defScope s_plain_text) .none kV_plain_text dc_plain_text pm_plain_text an_plain_text cd_plain_text ct_plain_text), sl_plain_text⟩)
    (c_plain_text : PySem.W.codeIn K cd_plain_text "plain_text" = true)
    (k_plain_text : PySem.W.keepIn K (.ref f_plain_text) = true)
    (a_law_row : PySem.W.nsIn K mainGlobals "_law_row" = some (some (.ref f_law_row)))
    (l_law_row : K.lookup f_law_row = some ⟨oc_law_row, od_law_row, .func (PySem.W.fnOf "_law_row" "_law_row" (defArgs s_law_row) (defBody s_law_row) (defScope s_law_row) .none kV_law_row dc_law_row pm_law_row an_law_row cd_law_row ct_law_row), sl_law_row⟩)
    (c_law_row : PySem.W.codeIn K cd_law_row "_law_row" = true)
    (k_law_row : PySem.W.keepIn K (.ref f_law_row) = true)
    (a_law_at : PySem.W.nsIn K mainGlobals "_law_at" = some (some (.ref f_law_at)))
    (l_law_at : K.lookup f_law_at = some ⟨oc_law_at, od_law_at, .func (PySem.W.fnOf "_law_at" "_law_at" (defArgs s_law_at) (defBody s_law_at) (defScope s_law_at) .none kV_law_at dc_law_at pm_law_at an_law_at cd_law_at ct_law_at), sl_law_at⟩)
    (c_law_at : PySem.W.codeIn K cd_law_at "_law_at" = true)
    (k_law_at : PySem.W.keepIn K (.ref f_law_at) = true)
    (a_law_next : PySem.W.nsIn K mainGlobals "_law_next" = some (some (.ref f_law_next)))
    (l_law_next : K.lookup f_law_next = some ⟨oc_law_next, od_law_next, .func (PySem.W.fnOf "_law_next" "_law_next" (defArgs s_law_next) (defBody s_law_next) (defScope s_law_next) .none kV_law_next dc_law_next pm_law_next an_law_next cd_law_next ct_law_next), sl_law_next⟩)
    (c_law_next : PySem.W.codeIn K cd_law_next "_law_next" = true)
    (k_law_next : PySem.W.keepIn K (.ref f_law_next) = true)
    (a_law_tree : PySem.W.nsIn K mainGlobals "_law_tree" = some (some (.ref f_law_tree)))
    (l_law_tree : K.lookup f_law_tree = some ⟨oc_law_tree, od_law_tree, .func (PySem.W.fnOf "_law_tree" "_law_tree" (defArgs s_law_tree) (defBody s_law_tree) (defScope s_law_tree) .none kV_law_tree dc_law_tree pm_law_tree an_law_tree cd_law_tree ct_law_tree), sl_law_tree⟩)
    (c_law_tree : PySem.W.codeIn K cd_law_tree "_law_tree" = true)
    (k_law_tree : PySem.W.keepIn K (.ref f_law_tree) = true)
    (a_law_rank : PySem.W.nsIn K mainGlobals "_law_rank" = some (some (.ref f_law_rank)))
    (l_law_rank : K.lookup f_law_rank = some ⟨oc_law_rank, od_law_rank, .func (PySem.W.fnOf "_law_rank" "_law_rank" (defArgs s_law_rank) (defBody s_law_rank) (defScope s_law_rank) .none kV_law_rank dc_law_rank pm_law_rank an_law_rank cd_law_rank ct_law_rank), sl_law_rank⟩)
    (c_law_rank : PySem.W.codeIn K cd_law_rank "_law_rank" = true)
    (k_law_rank : PySem.W.keepIn K (.ref f_law_rank) = true)
    (a_law_plain26 : PySem.W.nsIn K mainGlobals "_law_plain" = some (some (.ref f_law_plain26)))
    (l_law_plain26 : K.lookup f_law_plain26 = some ⟨oc_law_plain26, od_law_plain26, .func (PySem.W.fnOf "_law_plain" "_law_plain" (defArgs s_law_plain26) (defBody s_law_plain26) (defScope s_law_plain26) .none kV_law_plain26 dc_law_plain26 pm_law_plain26 an_law_plain26 cd_law_plain26 ct_law_plain26), sl_law_plain26⟩)
    (c_law_plain26 : PySem.W.codeIn K cd_law_plain26 "_law_plain" = true)
    (k_law_plain26 : PySem.W.keepIn K (.ref f_law_plain26) = true)
    (a_law_operand : PySem.W.nsIn K mainGlobals "_law_operand" = some (some (.ref f_law_operand)))
    (l_law_operand : K.lookup f_law_operand = some ⟨oc_law_operand, od_law_operand, .func (PySem.W.fnOf "_law_operand" "_law_operand" (defArgs s_law_operand) (defBody s_law_operand) (defScope s_law_operand) .none kV_law_operand dc_law_operand pm_law_operand an_law_operand cd_law_operand ct_law_operand), sl_law_operand⟩)
    (c_law_operand : PySem.W.codeIn K cd_law_operand "_law_operand" = true)
    (k_law_operand : PySem.W.keepIn K (.ref f_law_operand) = true)
    (a_law_levels26 : PySem.W.nsIn K mainGlobals "_law_levels" = some (some (.ref f_law_levels26)))
    (l_law_levels26 : K.lookup f_law_levels26 = some ⟨oc_law_levels26, od_law_levels26, .func (PySem.W.fnOf "_law_levels" "_law_levels" (defArgs s_law_levels26) (defBody s_law_levels26) (defScope s_law_levels26) .none kV_law_levels26 dc_law_levels26 pm_law_levels26 an_law_levels26 cd_law_levels26 ct_law_levels26), sl_law_levels26⟩)
    (c_law_levels26 : PySem.W.codeIn K cd_law_levels26 "_law_levels" = true)
    (k_law_levels26 : PySem.W.keepIn K (.ref f_law_levels26) = true)
    (a_law_names26 : PySem.W.nsIn K mainGlobals "_law_names" = some (some (.ref f_law_names26)))
    (l_law_names26 : K.lookup f_law_names26 = some ⟨oc_law_names26, od_law_names26, .func (PySem.W.fnOf "_law_names" "_law_names" (defArgs s_law_names26) (defBody s_law_names26) (defScope s_law_names26) .none kV_law_names26 dc_law_names26 pm_law_names26 an_law_names26 cd_law_names26 ct_law_names26), sl_law_names26⟩)
    (c_law_names26 : PySem.W.codeIn K cd_law_names26 "_law_names" = true)
    (k_law_names26 : PySem.W.keepIn K (.ref f_law_names26) = true)
    (a_law_once26 : PySem.W.nsIn K mainGlobals "_law_once" = some (some (.ref f_law_once26)))
    (l_law_once26 : K.lookup f_law_once26 = some ⟨oc_law_once26, od_law_once26, .func (PySem.W.fnOf "_law_once" "_law_once" (defArgs s_law_once26) (defBody s_law_once26) (defScope s_law_once26) .none kV_law_once26 dc_law_once26 pm_law_once26 an_law_once26 cd_law_once26 ct_law_once26), sl_law_once26⟩)
    (c_law_once26 : PySem.W.codeIn K cd_law_once26 "_law_once" = true)
    (k_law_once26 : PySem.W.keepIn K (.ref f_law_once26) = true)
    (a_law : PySem.W.nsIn K mainGlobals "law" = some (some (.ref f_law)))
    (l_law : K.lookup f_law = some ⟨oc_law, od_law, .func (PySem.W.fnOf "law" "law" (defArgs s_law) (defBody s_law) (defScope s_law) .none kV_law dc_law pm_law an_law cd_law ct_law), sl_law⟩)
    (c_law : PySem.W.codeIn K cd_law "law" = true)
    (k_law : PySem.W.keepIn K (.ref f_law) = true)
    (x1_BadForm : PySem.W.nsIn K mainGlobals "BadForm" = some (some (.ref a_BadForm)))
    (x2_BadForm : PySem.W.keepIn K (.ref a_BadForm) = true)
    (x4_BadForm : PySem.W.subIn K (.ref a_BadForm) (.type "BaseException") = some true)
    (x5_BadForm : PySem.W.typeIn K (.ref a_BadForm) = some (.type "type"))
    (y1_BadForm : PySem.W.findIn K (.ref a_BadForm) "__getattribute__" = some (some (.builtin "BaseException.__getattribute__")))
    (y2_BadForm : PySem.W.findIn K (.ref a_BadForm) "__getattr__" = some none)
    (y4_BadForm : PySem.W.hasDictIn K a_BadForm = true)
    (y5_BadForm : PySem.W.findIn K (.ref a_BadForm) "__class__" = some (some (.builtin "object.__class__")))
    (y8_BadForm : PySem.W.mroIn K a_BadForm (.type "object") = some true)
    (x1_ReckonError : PySem.W.nsIn K mainGlobals "ReckonError" = some (some (.ref a_ReckonError)))
    (x2_ReckonError : PySem.W.keepIn K (.ref a_ReckonError) = true)
    (x4_ReckonError : PySem.W.subIn K (.ref a_ReckonError) (.type "BaseException") = some true)
    (x5_ReckonError : PySem.W.typeIn K (.ref a_ReckonError) = some (.type "type"))
    (y1_ReckonError : PySem.W.findIn K (.ref a_ReckonError) "__getattribute__" = some (some (.builtin "BaseException.__getattribute__")))
    (y2_ReckonError : PySem.W.findIn K (.ref a_ReckonError) "__getattr__" = some none)
    (y4_ReckonError : PySem.W.hasDictIn K a_ReckonError = true)
    (y5_ReckonError : PySem.W.findIn K (.ref a_ReckonError) "__class__" = some (some (.builtin "object.__class__")))
    (y8_ReckonError : PySem.W.mroIn K a_ReckonError (.type "object") = some true)
    (vV : PySem.W.findCls K (.type "ValueError") (.type "type") "__init__" = some (.val (.builtin "ValueError.__init__")))
    (i1_ReckonError : PySem.W.findIn K (.ref a_ReckonError) "__init__" = some (some (.ref f_c_ReckonError)))
    (i2_ReckonError : PySem.W.typeIn K (.ref f_c_ReckonError) = some (.type "function"))
    (i3_ReckonError : K.lookup f_c_ReckonError = some ⟨oc_c_ReckonError, od_c_ReckonError, .func (PySem.W.fnOf "__init__" "ReckonError.__init__" (defArgs s_c_ReckonError) (defBody s_c_ReckonError) (defScope s_c_ReckonError) (.ref T_c_ReckonError) kV_c_ReckonError dc_c_ReckonError pm_c_ReckonError an_c_ReckonError cd_c_ReckonError ct_c_ReckonError), sl_c_ReckonError⟩)
    (i4_ReckonError : K.lookup T_c_ReckonError = some ⟨oc2_c_ReckonError, od2_c_ReckonError, .seq #[.str "" tk_c_ReckonError, .str "" tk2_c_ReckonError] n_c_ReckonError, sl2_c_ReckonError⟩)
    (i5_ReckonError : PySem.W.codeIn K cd_c_ReckonError "ReckonError.__init__" = true)
    (i6_ReckonError : PySem.W.keepIn K (.ref f_c_ReckonError) = true)
    (g1_R : PySem.W.readsIn K a_ReckonError (.type "type") = true)
    (g2_R : PySem.W.specialIn K (.ref a_ReckonError) "__getattribute__" = some (some (.builtin "type.__getattribute__")))
    (g3_R : PySem.W.findCls K (.ref a_ReckonError) (.type "type") "__init__" = some (.val (.ref f_c_ReckonError)))
    (i1_BadForm : PySem.W.findIn K (.ref a_BadForm) "__init__" = some (some (.ref f_c_BadForm)))
    (i2_BadForm : PySem.W.typeIn K (.ref f_c_BadForm) = some (.type "function"))
    (i3_BadForm : K.lookup f_c_BadForm = some ⟨oc_c_BadForm, od_c_BadForm, .func (PySem.W.fnOf "__init__" "BadForm.__init__" (defArgs s_c_BadForm) (defBody s_c_BadForm) (defScope s_c_BadForm) (.ref T_c_BadForm) kV_c_BadForm dc_c_BadForm pm_c_BadForm an_c_BadForm cd_c_BadForm ct_c_BadForm), sl_c_BadForm⟩)
    (i4_BadForm : K.lookup T_c_BadForm = some ⟨oc2_c_BadForm, od2_c_BadForm, .seq #[.str "" tk_c_BadForm] n_c_BadForm, sl2_c_BadForm⟩)
    (i5_BadForm : PySem.W.codeIn K cd_c_BadForm "BadForm.__init__" = true)
    (i6_BadForm : PySem.W.keepIn K (.ref f_c_BadForm) = true)
    (o1_BadForm : K.lookup a_BadForm = some (excClassObj "BadForm" q_BadForm a_BadForm N_BadForm bs_BadForm bm_BadForm true sn_BadForm sub_BadForm ab_BadForm col_BadForm dd_BadForm k0_BadForm k1_BadForm k2_BadForm k3_BadForm k5_BadForm "ValueError.__new__"))
    (o2_BadForm : PySem.HandSPX.refsVE bm_BadForm = true)
    (o3_BadForm : PySem.W.findIn K (.ref a_BadForm) "__setattr__" = some (some (.builtin "object.__setattr__")))
    (o4_BadForm : PySem.W.findIn K (.ref a_BadForm) "word" = some none)
    (y6 : PySem.W.specialIn K (.builtin "object.__class__") "__get__" = some (some (.builtin "getset_descriptor.__get__")))
    (y7 : PySem.W.takesIn K (.builtin "object.__class__") = some true)
    (z_ValueError : PySem.W.nsIn K mainGlobals "ValueError" = some none)
    (z_abs : PySem.W.nsIn K mainGlobals "abs" = some none)
    (z_int : PySem.W.nsIn K mainGlobals "int" = some none)
    (z_len : PySem.W.nsIn K mainGlobals "len" = some none)
    (z_max : PySem.W.nsIn K mainGlobals "max" = some none)
    (z_range : PySem.W.nsIn K mainGlobals "range" = some none)
    (z_set : PySem.W.nsIn K mainGlobals "set" = some none)
    (z_sorted : PySem.W.nsIn K mainGlobals "sorted" = some none)
    (z_str : PySem.W.nsIn K mainGlobals "str" = some none)
    (z_tuple : PySem.W.nsIn K mainGlobals "tuple" = some none)
    (w_DIGITS : PySem.W.nsIn K mainGlobals "DIGITS" = some (some (.str "0123456789" t_DIGITS)))
    (w_LETTERS : PySem.W.nsIn K mainGlobals "LETTERS" = some (some (.str "abcdefghijklmnopqrstuvwxyzABCDEFGHIJKLMNOPQRSTUVWXYZ" t_LETTERS)))
    (w_MAX_FIGURES : PySem.W.nsIn K mainGlobals "MAX_FIGURES" = some (some (.int 18 t_MAX_FIGURES)))
    (w_MAX_LEVELS : PySem.W.nsIn K mainGlobals "MAX_LEVELS" = some (some (.int 30 t_MAX_LEVELS)))
    (w_MAX_NAME : PySem.W.nsIn K mainGlobals "MAX_NAME" = some (some (.int 4 t_MAX_NAME)))
    (w_MAX_TEXT : PySem.W.nsIn K mainGlobals "MAX_TEXT" = some (some (.int 1000 t_MAX_TEXT)))
    (w_SINGLE : PySem.W.nsIn K mainGlobals "SINGLE" = some (some (.int 3 t_SINGLE)))
    (w_SMALL_LETTERS : PySem.W.nsIn K mainGlobals "SMALL_LETTERS" = some (some (.str "abcdefghijklmnopqrstuvwxyz" t_SMALL_LETTERS)))
    (v1_KEYWORDS : PySem.W.nsIn K mainGlobals "KEYWORDS" = some (some (.ref a_KEYWORDS)))
    (v2_KEYWORDS : kdat K 5 (.ref a_KEYWORDS) = some kwD)
    (v1_MARKS : PySem.W.nsIn K mainGlobals "MARKS" = some (some (.ref a_MARKS)))
    (v2_MARKS : kdat K 5 (.ref a_MARKS) = some marksD)
    (v1_OPERATIONS : PySem.W.nsIn K mainGlobals "OPERATIONS" = some (some (.ref a_OPERATIONS)))
    (v2_OPERATIONS : kdat K 5 (.ref a_OPERATIONS) = some opsD)
    (v1_FUNCTIONS : PySem.W.nsIn K mainGlobals "FUNCTIONS" = some (some (.ref a_FUNCTIONS)))
    (kl_FUNCTIONS : K.lookup a_FUNCTIONS = some ⟨.type "dict", none, .dict es_FUNCTIONS n_FUNCTIONS, #[]⟩)
    (kk_FUNCTIONS : PySem.W.KeysLit w.params es_FUNCTIONS.toList)
    (ke_FUNCTIONS : Paired EntR functionsL es_FUNCTIONS.toList)
    (ks_FUNCTIONS : (a_FUNCTIONS == sysModules) = false)
    (v1_MARKS_OF : PySem.W.nsIn K mainGlobals "MARKS_OF" = some (some (.ref a_MARKS_OF)))
    (kl_MARKS_OF : K.lookup a_MARKS_OF = some ⟨.type "dict", none, .dict es_MARKS_OF n_MARKS_OF, #[]⟩)
    (kk_MARKS_OF : PySem.W.KeysLit w.params es_MARKS_OF.toList)
    (ke_MARKS_OF : Paired EntR marksOfL es_MARKS_OF.toList)
    (ks_MARKS_OF : (a_MARKS_OF == sysModules) = false)
    (v1_PRODUCTS : PySem.W.nsIn K mainGlobals "PRODUCTS" = some (some (.ref a_PRODUCTS)))
    (kl_PRODUCTS : K.lookup a_PRODUCTS = some ⟨.type "dict", none, .dict es_PRODUCTS n_PRODUCTS, #[]⟩)
    (kk_PRODUCTS : PySem.W.KeysLit w.params es_PRODUCTS.toList)
    (ke_PRODUCTS : Paired EntR productsL es_PRODUCTS.toList)
    (ks_PRODUCTS : (a_PRODUCTS == sysModules) = false)
    (v1_RANKS : PySem.W.nsIn K mainGlobals "RANKS" = some (some (.ref a_RANKS)))
    (kl_RANKS : K.lookup a_RANKS = some ⟨.type "dict", none, .dict es_RANKS n_RANKS, #[]⟩)
    (kk_RANKS : PySem.W.KeysLit w.params es_RANKS.toList)
    (ke_RANKS : Paired EntR ranksL es_RANKS.toList)
    (ks_RANKS : (a_RANKS == sysModules) = false)
    (v1_SIGNS : PySem.W.nsIn K mainGlobals "SIGNS" = some (some (.ref a_SIGNS)))
    (kl_SIGNS : K.lookup a_SIGNS = some ⟨.type "dict", none, .dict es_SIGNS n_SIGNS, #[]⟩)
    (kk_SIGNS : PySem.W.KeysLit w.params es_SIGNS.toList)
    (ke_SIGNS : Paired EntR signsL es_SIGNS.toList)
    (ks_SIGNS : (a_SIGNS == sysModules) = false)
    (v1_SUMS : PySem.W.nsIn K mainGlobals "SUMS" = some (some (.ref a_SUMS)))
    (kl_SUMS : K.lookup a_SUMS = some ⟨.type "dict", none, .dict es_SUMS n_SUMS, #[]⟩)
    (kk_SUMS : PySem.W.KeysLit w.params es_SUMS.toList)
    (ke_SUMS : Paired EntR sumsL es_SUMS.toList)
    (ks_SUMS : (a_SUMS == sysModules) = false) :
    ∃ fd : FuncData, (∀ (s : Shared) (v : Value), BindsTo s fd ⟨[v], []⟩ [("script", v)]) ∧ ∀ base : Heap, K.In base → base.Ns mainGlobals mg → FnOk l.prog w K mg base CX0 231 fa fd ["script"] (sp_law K) := by
  have e := hfa.symm.trans (PySem.W.mg_of X G a_law)
  cases e
  have F_run_of := fun_mk (st := s_run_of) l_run_of c_run_of k_run_of
  have D_run_of : DefAt K mg "run_of" s_run_of ["characters", "text", "at"] _ _ := ⟨F_run_of, PySem.W.mg_of X G a_run_of, F_run_of.binds (ps := ["characters", "text", "at"]) fun _ _ _ _ _ _ us hl => match us, hl with | [_, _, _], _ => rfl⟩
  have F_token_at := fun_mk (st := s_token_at) l_token_at c_token_at k_token_at
  have D_token_at : DefAt K mg "token_at" s_token_at ["text", "at"] _ _ := ⟨F_token_at, PySem.W.mg_of X G a_token_at, F_token_at.binds (ps := ["text", "at"]) fun _ _ _ _ _ _ us hl => match us, hl with | [_, _], _ => rfl⟩
  have F_tokens := fun_mk (st := s_tokens) l_tokens c_tokens k_tokens
  have D_tokens : DefAt K mg "tokens" s_tokens ["text"] _ _ := ⟨F_tokens, PySem.W.mg_of X G a_tokens, F_tokens.binds (ps := ["text"]) fun _ _ _ _ _ _ us hl => match us, hl with | [_], _ => rfl⟩
  have F_is_name := fun_mk (st := s_is_name) l_is_name c_is_name k_is_name
  have D_is_name : DefAt K mg "is_name" s_is_name ["word"] _ _ := ⟨F_is_name, PySem.W.mg_of X G a_is_name, F_is_name.binds (ps := ["word"]) fun _ _ _ _ _ _ us hl => match us, hl with | [_], _ => rfl⟩
  have F_is_integer := fun_mk (st := s_is_integer) l_is_integer c_is_integer k_is_integer
  have D_is_integer : DefAt K mg "is_integer" s_is_integer ["word"] _ _ := ⟨F_is_integer, PySem.W.mg_of X G a_is_integer, F_is_integer.binds (ps := ["word"]) fun _ _ _ _ _ _ us hl => match us, hl with | [_], _ => rfl⟩
  have F_deeper := fun_mk (st := s_deeper) l_deeper c_deeper k_deeper
  have D_deeper : DefAt K mg "deeper" s_deeper ["level"] _ _ := ⟨F_deeper, PySem.W.mg_of X G a_deeper, F_deeper.binds (ps := ["level"]) fun _ _ _ _ _ _ us hl => match us, hl with | [_], _ => rfl⟩
  have F_Reader_init := fun_mk (st := s_Reader_init) l_Reader_init c_Reader_init k_Reader_init
  have D_Reader___init__ : MetAt K a_Reader "__init__" "Reader.__init__" s_Reader_init ["self", "text"] _ _ := ⟨F_Reader_init, F_Reader_init.binds (ps := ["self", "text"]) fun _ _ _ _ _ _ us hl => match us, hl with | [_, _], _ => rfl, ⟨a_Reader_init, i_Reader_init, k_Reader_init⟩⟩
  have F_Reader_ahead := fun_mk (st := s_Reader_ahead) l_Reader_ahead c_Reader_ahead k_Reader_ahead
  have D_Reader_ahead : MetAt K a_Reader "ahead" "Reader.ahead" s_Reader_ahead ["self"] _ _ := ⟨F_Reader_ahead, F_Reader_ahead.binds (ps := ["self"]) fun _ _ _ _ _ _ us hl => match us, hl with | [_], _ => rfl, ⟨a_Reader_ahead, i_Reader_ahead, k_Reader_ahead⟩⟩
  have F_Reader_take := fun_mk (st := s_Reader_take) l_Reader_take c_Reader_take k_Reader_take
  have D_Reader_take : MetAt K a_Reader "take" "Reader.take" s_Reader_take ["self"] _ _ := ⟨F_Reader_take, F_Reader_take.binds (ps := ["self"]) fun _ _ _ _ _ _ us hl => match us, hl with | [_], _ => rfl, ⟨a_Reader_take, i_Reader_take, k_Reader_take⟩⟩
  have F_Reader_skip := fun_mk (st := s_Reader_skip) l_Reader_skip c_Reader_skip k_Reader_skip
  have D_Reader_skip : MetAt K a_Reader "skip" "Reader.skip" s_Reader_skip ["self", "token"] _ _ := ⟨F_Reader_skip, F_Reader_skip.binds (ps := ["self", "token"]) fun _ _ _ _ _ _ us hl => match us, hl with | [_, _], _ => rfl, ⟨a_Reader_skip, i_Reader_skip, k_Reader_skip⟩⟩
  have F_Reader_demand := fun_mk (st := s_Reader_demand) l_Reader_demand c_Reader_demand k_Reader_demand
  have D_Reader_demand : MetAt K a_Reader "demand" "Reader.demand" s_Reader_demand ["self", "token"] _ _ := ⟨F_Reader_demand, F_Reader_demand.binds (ps := ["self", "token"]) fun _ _ _ _ _ _ us hl => match us, hl with | [_, _], _ => rfl, ⟨a_Reader_demand, i_Reader_demand, k_Reader_demand⟩⟩
  have F_Reader_read_args := fun_mk (st := s_Reader_read_args) l_Reader_read_args c_Reader_read_args k_Reader_read_args
  have D_Reader_read_args : MetAt K a_Reader "read_args" "Reader.read_args" s_Reader_read_args ["self", "level", "many"] _ _ := ⟨F_Reader_read_args, F_Reader_read_args.binds (ps := ["self", "level", "many"]) fun _ _ _ _ _ _ us hl => match us, hl with | [_, _, _], _ => rfl, ⟨a_Reader_read_args, i_Reader_read_args, k_Reader_read_args⟩⟩
  have F_Reader_read_part := fun_mk (st := s_Reader_read_part) l_Reader_read_part c_Reader_read_part k_Reader_read_part
  have D_Reader_read_part : MetAt K a_Reader "read_part" "Reader.read_part" s_Reader_read_part ["self", "level"] _ _ := ⟨F_Reader_read_part, F_Reader_read_part.binds (ps := ["self", "level"]) fun _ _ _ _ _ _ us hl => match us, hl with | [_, _], _ => rfl, ⟨a_Reader_read_part, i_Reader_read_part, k_Reader_read_part⟩⟩
  have F_Reader_read_sign := fun_mk (st := s_Reader_read_sign) l_Reader_read_sign c_Reader_read_sign k_Reader_read_sign
  have D_Reader_read_sign : MetAt K a_Reader "read_sign" "Reader.read_sign" s_Reader_read_sign ["self", "level"] _ _ := ⟨F_Reader_read_sign, F_Reader_read_sign.binds (ps := ["self", "level"]) fun _ _ _ _ _ _ us hl => match us, hl with | [_, _], _ => rfl, ⟨a_Reader_read_sign, i_Reader_read_sign, k_Reader_read_sign⟩⟩
  have F_Reader_read_product := fun_mk (st := s_Reader_read_product) l_Reader_read_product c_Reader_read_product k_Reader_read_product
  have D_Reader_read_product : MetAt K a_Reader "read_product" "Reader.read_product" s_Reader_read_product ["self", "level"] _ _ := ⟨F_Reader_read_product, F_Reader_read_product.binds (ps := ["self", "level"]) fun _ _ _ _ _ _ us hl => match us, hl with | [_, _], _ => rfl, ⟨a_Reader_read_product, i_Reader_read_product, k_Reader_read_product⟩⟩
  have F_Reader_read_sum := fun_mk (st := s_Reader_read_sum) l_Reader_read_sum c_Reader_read_sum k_Reader_read_sum
  have D_Reader_read_sum : MetAt K a_Reader "read_sum" "Reader.read_sum" s_Reader_read_sum ["self", "level"] _ _ := ⟨F_Reader_read_sum, F_Reader_read_sum.binds (ps := ["self", "level"]) fun _ _ _ _ _ _ us hl => match us, hl with | [_, _], _ => rfl, ⟨a_Reader_read_sum, i_Reader_read_sum, k_Reader_read_sum⟩⟩
  have F_Reader_check_end := fun_mk (st := s_Reader_check_end) l_Reader_check_end c_Reader_check_end k_Reader_check_end
  have D_Reader_check_end : MetAt K a_Reader "check_end" "Reader.check_end" s_Reader_check_end ["self"] _ _ := ⟨F_Reader_check_end, F_Reader_check_end.binds (ps := ["self"]) fun _ _ _ _ _ _ us hl => match us, hl with | [_], _ => rfl, ⟨a_Reader_check_end, i_Reader_check_end, k_Reader_check_end⟩⟩
  have F_read_formula := fun_mk (st := s_read_formula) l_read_formula c_read_formula k_read_formula
  have D_read_formula : DefAt K mg "read_formula" s_read_formula ["text"] _ _ := ⟨F_read_formula, PySem.W.mg_of X G a_read_formula, F_read_formula.binds (ps := ["text"]) fun _ _ _ _ _ _ us hl => match us, hl with | [_], _ => rfl⟩
  have F_unrolled := fun_mk (st := s_unrolled) l_unrolled c_unrolled k_unrolled
  have D_unrolled : DefAt K mg "unrolled" s_unrolled ["tree"] _ _ := ⟨F_unrolled, PySem.W.mg_of X G a_unrolled, F_unrolled.binds (ps := ["tree"]) fun _ _ _ _ _ _ us hl => match us, hl with | [_], _ => rfl⟩
  have F_trees_in := fun_mk (st := s_trees_in) l_trees_in c_trees_in k_trees_in
  have D_trees_in : DefAt K mg "trees_in" s_trees_in ["tree"] _ _ := ⟨F_trees_in, PySem.W.mg_of X G a_trees_in, F_trees_in.binds (ps := ["tree"]) fun _ _ _ _ _ _ us hl => match us, hl with | [_], _ => rfl⟩
  have F_names_of := fun_mk (st := s_names_of) l_names_of c_names_of k_names_of
  have D_names_of : DefAt K mg "names_of" s_names_of ["tree"] _ _ := ⟨F_names_of, PySem.W.mg_of X G a_names_of, F_names_of.binds (ps := ["tree"]) fun _ _ _ _ _ _ us hl => match us, hl with | [_], _ => rfl⟩
  have F_operand_text := fun_mk (st := s_operand_text) l_operand_text c_operand_text k_operand_text
  have D_operand_text : DefAt K mg "operand_text" s_operand_text ["tree", "least"] _ _ := ⟨F_operand_text, PySem.W.mg_of X G a_operand_text, F_operand_text.binds (ps := ["tree", "least"]) fun _ _ _ _ _ _ us hl => match us, hl with | [_, _], _ => rfl⟩
  have F_single_text := fun_mk (st := s_single_text) l_single_text c_single_text k_single_text
  have D_single_text : DefAt K mg "single_text" s_single_text ["tree"] _ _ := ⟨F_single_text, PySem.W.mg_of X G a_single_text, F_single_text.binds (ps := ["tree"]) fun _ _ _ _ _ _ us hl => match us, hl with | [_], _ => rfl⟩
  have F_plain_text := fun_mk (st := s_plain_text) l_plain_text c_plain_text k_plain_text
  have D_plain_text : DefAt K mg "plain_text" s_plain_text ["tree"] _ _ := ⟨F_plain_text, PySem.W.mg_of X G a_plain_text, F_plain_text.binds (ps := ["tree"]) fun _ _ _ _ _ _ us hl => match us, hl with | [_], _ => rfl⟩
  have F_law_row := fun_mk (st := s_law_row) l_law_row c_law_row k_law_row
  have D__law_row : DefAt K mg "_law_row" s_law_row ["script"] _ _ := ⟨F_law_row, PySem.W.mg_of X G a_law_row, F_law_row.binds (ps := ["script"]) fun _ _ _ _ _ _ us hl => match us, hl with | [_], _ => rfl⟩
  have F_law_at := fun_mk (st := s_law_at) l_law_at c_law_at k_law_at
  have D__law_at : DefAt K mg "_law_at" s_law_at ["row", "at"] _ _ := ⟨F_law_at, PySem.W.mg_of X G a_law_at, F_law_at.binds (ps := ["row", "at"]) fun _ _ _ _ _ _ us hl => match us, hl with | [_, _], _ => rfl⟩
  have F_law_next := fun_mk (st := s_law_next) l_law_next c_law_next k_law_next
  have D__law_next : DefAt K mg "_law_next" s_law_next ["row", "state"] _ _ := ⟨F_law_next, PySem.W.mg_of X G a_law_next, F_law_next.binds (ps := ["row", "state"]) fun _ _ _ _ _ _ us hl => match us, hl with | [_, _], _ => rfl⟩
  have F_law_tree := fun_mk (st := s_law_tree) l_law_tree c_law_tree k_law_tree
  have D__law_tree : DefAt K mg "_law_tree" s_law_tree ["row", "state", "depth", "names"] _ _ := ⟨F_law_tree, PySem.W.mg_of X G a_law_tree, F_law_tree.binds (ps := ["row", "state", "depth", "names"]) fun _ _ _ _ _ _ us hl => match us, hl with | [_, _, _, _], _ => rfl⟩
  have F_law_rank := fun_mk (st := s_law_rank) l_law_rank c_law_rank k_law_rank
  have D__law_rank : DefAt K mg "_law_rank" s_law_rank ["tree"] _ _ := ⟨F_law_rank, PySem.W.mg_of X G a_law_rank, F_law_rank.binds (ps := ["tree"]) fun _ _ _ _ _ _ us hl => match us, hl with | [_], _ => rfl⟩
  have F_law_plain26 := fun_mk (st := s_law_plain26) l_law_plain26 c_law_plain26 k_law_plain26
  have D__law_plain : DefAt K mg "_law_plain" s_law_plain26 ["tree", "extra"] _ _ := ⟨F_law_plain26, PySem.W.mg_of X G a_law_plain26, F_law_plain26.binds (ps := ["tree", "extra"]) fun _ _ _ _ _ _ us hl => match us, hl with | [_, _], _ => rfl⟩
  have F_law_operand := fun_mk (st := s_law_operand) l_law_operand c_law_operand k_law_operand
  have D__law_operand : DefAt K mg "_law_operand" s_law_operand ["tree", "least", "extra"] _ _ := ⟨F_law_operand, PySem.W.mg_of X G a_law_operand, F_law_operand.binds (ps := ["tree", "least", "extra"]) fun _ _ _ _ _ _ us hl => match us, hl with | [_, _, _], _ => rfl⟩
  have F_law_levels26 := fun_mk (st := s_law_levels26) l_law_levels26 c_law_levels26 k_law_levels26
  have D__law_levels : DefAt K mg "_law_levels" s_law_levels26 ["tree"] _ _ := ⟨F_law_levels26, PySem.W.mg_of X G a_law_levels26, F_law_levels26.binds (ps := ["tree"]) fun _ _ _ _ _ _ us hl => match us, hl with | [_], _ => rfl⟩
  have F_law_names26 := fun_mk (st := s_law_names26) l_law_names26 c_law_names26 k_law_names26
  have D__law_names : DefAt K mg "_law_names" s_law_names26 ["tree"] _ _ := ⟨F_law_names26, PySem.W.mg_of X G a_law_names26, F_law_names26.binds (ps := ["tree"]) fun _ _ _ _ _ _ us hl => match us, hl with | [_], _ => rfl⟩
  have F_law_once26 := fun_mk (st := s_law_once26) l_law_once26 c_law_once26 k_law_once26
  have D__law_once : DefAt K mg "_law_once" s_law_once26 ["names"] _ _ := ⟨F_law_once26, PySem.W.mg_of X G a_law_once26, F_law_once26.binds (ps := ["names"]) fun _ _ _ _ _ _ us hl => match us, hl with | [_], _ => rfl⟩
  have F_law := fun_mk (st := s_law) l_law c_law k_law
  have D_law : DefAt K mg "law" s_law ["script"] _ _ := ⟨F_law, PySem.W.mg_of X G a_law, F_law.binds (ps := ["script"]) fun _ _ _ _ _ _ us hl => match us, hl with | [_], _ => rfl⟩
  have T_Reader : Cls K a_Reader := ⟨u2_Reader, u3_Reader, u4_Reader, u5_Reader⟩
  have mC_Reader := PySem.W.mg_of X G u1_Reader
  have MK_Reader : Mk K a_Reader f_Reader_init := ⟨u6_Reader, a_Reader_init, i_Reader_init, u7_Reader⟩
  have m_FUNCTIONS := PySem.W.mg_of X G v1_FUNCTIONS
  have KD_FUNCTIONS : KDict K w a_FUNCTIONS es_FUNCTIONS n_FUNCTIONS := kd_dict kl_FUNCTIONS kk_FUNCTIONS ks_FUNCTIONS
  have d_FUNCTIONS : KdAt K a_FUNCTIONS functionsL := kd_at kl_FUNCTIONS ke_FUNCTIONS
  have m_MARKS_OF := PySem.W.mg_of X G v1_MARKS_OF
  have KD_MARKS_OF : KDict K w a_MARKS_OF es_MARKS_OF n_MARKS_OF := kd_dict kl_MARKS_OF kk_MARKS_OF ks_MARKS_OF
  have d_MARKS_OF : KdAt K a_MARKS_OF marksOfL := kd_at kl_MARKS_OF ke_MARKS_OF
  have m_PRODUCTS := PySem.W.mg_of X G v1_PRODUCTS
  have KD_PRODUCTS : KDict K w a_PRODUCTS es_PRODUCTS n_PRODUCTS := kd_dict kl_PRODUCTS kk_PRODUCTS ks_PRODUCTS
  have d_PRODUCTS : KdAt K a_PRODUCTS productsL := kd_at kl_PRODUCTS ke_PRODUCTS
  have m_RANKS := PySem.W.mg_of X G v1_RANKS
  have KD_RANKS : KDict K w a_RANKS es_RANKS n_RANKS := kd_dict kl_RANKS kk_RANKS ks_RANKS
  have d_RANKS : KdAt K a_RANKS ranksL := kd_at kl_RANKS ke_RANKS
  have m_SIGNS := PySem.W.mg_of X G v1_SIGNS
  have KD_SIGNS : KDict K w a_SIGNS es_SIGNS n_SIGNS := kd_dict kl_SIGNS kk_SIGNS ks_SIGNS
  have d_SIGNS : KdAt K a_SIGNS signsL := kd_at kl_SIGNS ke_SIGNS
  have m_SUMS := PySem.W.mg_of X G v1_SUMS
  have KD_SUMS : KDict K w a_SUMS es_SUMS n_SUMS := kd_dict kl_SUMS kk_SUMS ks_SUMS
  have d_SUMS : KdAt K a_SUMS sumsL := kd_at kl_SUMS ke_SUMS
  have C_BadForm : ClsAt K mg "BadForm" a_BadForm := ⟨PySem.W.mg_of X G x1_BadForm, x2_BadForm, x4_BadForm, x5_BadForm, ⟨y1_BadForm, y2_BadForm, x4_BadForm, y4_BadForm, y5_BadForm, y6, y7, y8_BadForm⟩⟩
  have C_ReckonError : ClsAt K mg "ReckonError" a_ReckonError := ⟨PySem.W.mg_of X G x1_ReckonError, x2_ReckonError, x4_ReckonError, x5_ReckonError, ⟨y1_ReckonError, y2_ReckonError, x4_ReckonError, y4_ReckonError, y5_ReckonError, y6, y7, y8_ReckonError⟩⟩
  have b_ValueError := PySem.W.mg_none_of X G z_ValueError
  have b_abs := PySem.W.mg_none_of X G z_abs
  have b_int := PySem.W.mg_none_of X G z_int
  have b_len := PySem.W.mg_none_of X G z_len
  have b_max := PySem.W.mg_none_of X G z_max
  have b_range := PySem.W.mg_none_of X G z_range
  have b_set := PySem.W.mg_none_of X G z_set
  have b_sorted := PySem.W.mg_none_of X G z_sorted
  have b_str := PySem.W.mg_none_of X G z_str
  have b_tuple := PySem.W.mg_none_of X G z_tuple
  have m_DIGITS := PySem.W.mg_of X G w_DIGITS
  have m_LETTERS := PySem.W.mg_of X G w_LETTERS
  have m_MAX_FIGURES := PySem.W.mg_of X G w_MAX_FIGURES
  have m_MAX_LEVELS := PySem.W.mg_of X G w_MAX_LEVELS
  have m_MAX_NAME := PySem.W.mg_of X G w_MAX_NAME
  have m_MAX_TEXT := PySem.W.mg_of X G w_MAX_TEXT
  have m_SINGLE := PySem.W.mg_of X G w_SINGLE
  have m_SMALL_LETTERS := PySem.W.mg_of X G w_SMALL_LETTERS
  have m_KEYWORDS := PySem.W.mg_of X G v1_KEYWORDS
  have d_KEYWORDS : KwAt K a_KEYWORDS := kw_mk v2_KEYWORDS
  have m_MARKS := PySem.W.mg_of X G v1_MARKS
  have d_MARKS : MarksAt K a_MARKS := marks_mk v2_MARKS
  have m_OPERATIONS := PySem.W.mg_of X G v1_OPERATIONS
  have d_OPERATIONS : OpsAt K a_OPERATIONS := ops_mk v2_OPERATIONS
  have rc : RdC K a_Reader := ⟨T_Reader, u8_Reader_parts, u8_Reader_at⟩
  refine ⟨PySem.W.fnOf "law" "law" (defArgs s_law) (defBody s_law) (defScope s_law) .none kV_law dc_law pm_law an_law cd_law ct_law, fun s v => .of_eq rfl, fun base _ _ => ?_⟩
  have I_R := init_mk2 (st := s_c_ReckonError) i3_ReckonError i4_ReckonError i5_ReckonError i6_ReckonError
  have B_R := binds_full (I_R.binds1 (ps := ["self", "why", "word"]) 3 2 (by simp) rfl (fun T kV doc pm an cdv ct us its hl hi => match us, its, hl, hi with | [_, _, _], [_, _], _, _ => ⟨_, rfl, rfl⟩)) rfl
  have G_R := ok_c_ReckonError (P := l.prog) (w := w) (base := base) I_R b_ValueError vV
  have I_BadForm := init_mk1 (st := s_c_BadForm) i3_BadForm i4_BadForm i5_BadForm i6_BadForm
  have B_BadForm := binds_full (I_BadForm.binds1 (ps := ["self", "why"]) 2 1 (by simp) rfl (fun T kV doc pm an cdv ct us its hl hi => match us, its, hl, hi with | [_, _], [_], _, _ => ⟨_, rfl, rfl⟩)) rfl
  have X_BadForm : ErrC l.prog w K mg base "BadForm" a_BadForm := ⟨C_BadForm.m, (oex_mk o1_BadForm o2_BadForm o3_BadForm C_BadForm).1, (oex_mk o1_BadForm o2_BadForm o3_BadForm C_BadForm).2, o4_BadForm, _, _, i1_BadForm, i2_BadForm, B_BadForm, ok_c_BadForm (P := l.prog) (w := w) (base := base) I_BadForm C_ReckonError.m ⟨g1_R, g2_R⟩ ⟨g3_R, rfl⟩ i6_ReckonError G_R B_R⟩
  have G_run_of := ok_run_of (P := l.prog) (w := w) (base := base) (k := 0) D_run_of   b_len  
  have G_token_at := ok_token_at (P := l.prog) (w := w) (base := base) (k := 3) D_token_at C_BadForm X_BadForm (by decide) D_run_of G_run_of (by decide) b_len m_LETTERS m_DIGITS m_MARKS d_MARKS 
  have G_tokens := ok_tokens (P := l.prog) (w := w) (base := base) (k := 4) D_tokens C_BadForm X_BadForm (by decide) D_token_at G_token_at (by decide) b_len m_MAX_TEXT 
  have G_is_name := ok_is_name (P := l.prog) (w := w) (base := base) (k := 1) D_is_name  D_run_of G_run_of (by decide) b_len m_MAX_NAME m_SMALL_LETTERS m_KEYWORDS d_KEYWORDS m_FUNCTIONS KD_FUNCTIONS d_FUNCTIONS 
  have G_is_integer := ok_is_integer (P := l.prog) (w := w) (base := base) (k := 1) D_is_integer  D_run_of G_run_of (by decide) b_len m_MAX_FIGURES m_DIGITS 
  have G_deeper := ok_deeper (P := l.prog) (w := w) (base := base) (k := 3) D_deeper C_BadForm X_BadForm (by decide)   m_MAX_LEVELS 
  have G_Reader___init__ := ok_Reader_init (P := l.prog) (w := w) (base := base) (k := 5) T_Reader D_Reader___init__ C_BadForm D_tokens G_tokens (by decide)   
  have G_Reader_ahead := ok_Reader_ahead (P := l.prog) (w := w) (base := base) (k := 0) T_Reader D_Reader_ahead   b_len  
  have G_Reader_take := ok_Reader_take (P := l.prog) (w := w) (base := base) (k := 1) T_Reader D_Reader_take  D_Reader_ahead G_Reader_ahead (by decide)   
  have G_Reader_skip := ok_Reader_skip (P := l.prog) (w := w) (base := base) (k := 1) T_Reader D_Reader_skip  D_Reader_ahead G_Reader_ahead (by decide)   
  have G_Reader_demand := ok_Reader_demand (P := l.prog) (w := w) (base := base) (k := 3) T_Reader D_Reader_demand C_BadForm X_BadForm (by decide) D_Reader_skip G_Reader_skip (by decide)   
  have G_Reader_read_args := (all_Reader (P := l.prog) (w := w) (base := base) (kb := 4) T_Reader C_BadForm X_BadForm D_Reader_read_sum D_Reader_read_product D_Reader_read_sign D_Reader_read_part D_Reader_read_args D_Reader_ahead G_Reader_ahead D_Reader_take G_Reader_take D_deeper G_deeper D_Reader_demand G_Reader_demand D_is_name G_is_name D_is_integer G_is_integer b_int b_len b_tuple  m_SUMS KD_SUMS d_SUMS m_PRODUCTS KD_PRODUCTS d_PRODUCTS m_SIGNS KD_SIGNS d_SIGNS m_FUNCTIONS KD_FUNCTIONS d_FUNCTIONS (by decide) (by decide) (by decide) (by decide) (by decide) (by decide) (by decide) 31).2.2.2.2
  have G_Reader_read_part := (all_Reader (P := l.prog) (w := w) (base := base) (kb := 4) T_Reader C_BadForm X_BadForm D_Reader_read_sum D_Reader_read_product D_Reader_read_sign D_Reader_read_part D_Reader_read_args D_Reader_ahead G_Reader_ahead D_Reader_take G_Reader_take D_deeper G_deeper D_Reader_demand G_Reader_demand D_is_name G_is_name D_is_integer G_is_integer b_int b_len b_tuple  m_SUMS KD_SUMS d_SUMS m_PRODUCTS KD_PRODUCTS d_PRODUCTS m_SIGNS KD_SIGNS d_SIGNS m_FUNCTIONS KD_FUNCTIONS d_FUNCTIONS (by decide) (by decide) (by decide) (by decide) (by decide) (by decide) (by decide) 31).2.2.2.1
  have G_Reader_read_sign := (all_Reader (P := l.prog) (w := w) (base := base) (kb := 4) T_Reader C_BadForm X_BadForm D_Reader_read_sum D_Reader_read_product D_Reader_read_sign D_Reader_read_part D_Reader_read_args D_Reader_ahead G_Reader_ahead D_Reader_take G_Reader_take D_deeper G_deeper D_Reader_demand G_Reader_demand D_is_name G_is_name D_is_integer G_is_integer b_int b_len b_tuple  m_SUMS KD_SUMS d_SUMS m_PRODUCTS KD_PRODUCTS d_PRODUCTS m_SIGNS KD_SIGNS d_SIGNS m_FUNCTIONS KD_FUNCTIONS d_FUNCTIONS (by decide) (by decide) (by decide) (by decide) (by decide) (by decide) (by decide) 31).2.2.1
  have G_Reader_read_product := (all_Reader (P := l.prog) (w := w) (base := base) (kb := 4) T_Reader C_BadForm X_BadForm D_Reader_read_sum D_Reader_read_product D_Reader_read_sign D_Reader_read_part D_Reader_read_args D_Reader_ahead G_Reader_ahead D_Reader_take G_Reader_take D_deeper G_deeper D_Reader_demand G_Reader_demand D_is_name G_is_name D_is_integer G_is_integer b_int b_len b_tuple  m_SUMS KD_SUMS d_SUMS m_PRODUCTS KD_PRODUCTS d_PRODUCTS m_SIGNS KD_SIGNS d_SIGNS m_FUNCTIONS KD_FUNCTIONS d_FUNCTIONS (by decide) (by decide) (by decide) (by decide) (by decide) (by decide) (by decide) 31).2.1
  have G_Reader_read_sum := (all_Reader (P := l.prog) (w := w) (base := base) (kb := 4) T_Reader C_BadForm X_BadForm D_Reader_read_sum D_Reader_read_product D_Reader_read_sign D_Reader_read_part D_Reader_read_args D_Reader_ahead G_Reader_ahead D_Reader_take G_Reader_take D_deeper G_deeper D_Reader_demand G_Reader_demand D_is_name G_is_name D_is_integer G_is_integer b_int b_len b_tuple  m_SUMS KD_SUMS d_SUMS m_PRODUCTS KD_PRODUCTS d_PRODUCTS m_SIGNS KD_SIGNS d_SIGNS m_FUNCTIONS KD_FUNCTIONS d_FUNCTIONS (by decide) (by decide) (by decide) (by decide) (by decide) (by decide) (by decide) 31).1
  have G_Reader_check_end := ok_Reader_check_end (P := l.prog) (w := w) (base := base) (k := 3) T_Reader D_Reader_check_end C_BadForm X_BadForm (by decide) D_Reader_ahead G_Reader_ahead (by decide)   
  have G_read_formula := ok_read_formula (P := l.prog) (w := w) (base := base) (k := 159) T_Reader D_read_formula C_BadForm D_Reader___init__ G_Reader___init__ (by decide) D_Reader_read_sum G_Reader_read_sum (by decide) D_Reader_check_end G_Reader_check_end (by decide) MK_Reader mC_Reader   rc
  have G_unrolled := ok_unrolled (P := l.prog) (w := w) (base := base) (k := 0) D_unrolled     m_OPERATIONS d_OPERATIONS 
  have G_trees_in := ok_trees_in (P := l.prog) (w := w) (base := base) (k := 0) D_trees_in     
  have G_names_of := ok_names_of (P := l.prog) (w := w) (base := base) (k := 1) D_names_of  D_trees_in G_trees_in (by decide) b_set b_sorted  
  
  
  have G_plain_text := (all_plain (P := l.prog) (w := w) (base := base) (kb := 1) D_plain_text D_operand_text D_single_text D_unrolled G_unrolled b_str m_SINGLE m_RANKS KD_RANKS d_RANKS m_MARKS_OF KD_MARKS_OF d_MARKS_OF (by decide) 24)
  have G__law_row := ok_law_row (P := l.prog) (w := w) (base := base) (k := 0) D__law_row   b_range b_len b_abs b_int  
  have G__law_at := ok_law_at (P := l.prog) (w := w) (base := base) (k := 0) D__law_at   b_len  
  have G__law_next := ok_law_next (P := l.prog) (w := w) (base := base) (k := 1) D__law_next  D__law_at G__law_at (by decide) b_int  
  have G__law_tree := all_law_tree (P := l.prog) (w := w) (base := base) D__law_tree  D__law_next G__law_next b_len b_range b_tuple  7
  have G__law_rank := ok_law_rank (P := l.prog) (w := w) (base := base) (k := 0) D__law_rank     
  have G__law_plain := (all_law_plain (P := l.prog) (w := w) (base := base) (kb := 1) D__law_plain D__law_operand  D__law_rank G__law_rank b_str b_int  (by decide) 7).1
  have G__law_operand := (all_law_plain (P := l.prog) (w := w) (base := base) (kb := 1) D__law_plain D__law_operand  D__law_rank G__law_rank b_str b_int  (by decide) 7).2
  have G__law_levels := all_law_levels26 (P := l.prog) (w := w) (base := base) D__law_levels   b_max  7
  have G__law_names := all_law_names26 (P := l.prog) (w := w) (base := base) D__law_names     7
  have G__law_once := ok_law_once26 (P := l.prog) (w := w) (base := base) (k := 0) D__law_once     
  have G_law := ok_law (P := l.prog) (w := w) (base := base) (k := 160) D_law C_BadForm D__law_row G__law_row (by decide) D__law_at G__law_at (by decide) D__law_tree G__law_tree (by decide) D__law_plain G__law_plain (by decide) D_plain_text G_plain_text (by decide) D_names_of G_names_of (by decide) D__law_once G__law_once (by decide) D__law_names G__law_names (by decide) D__law_levels G__law_levels (by decide) D_read_formula G_read_formula (by decide) b_int b_sorted b_len  
  exact G_law.mono (by decide)
theorem head_facts {l : PySem.W.OpenLaw} {w : World} {K : PySem.W.Frag} {h : Heap} {mg : Str → Option Value} {fa : Addr} (X : K.In h) (G : h.Ns mainGlobals mg) (hfa : mg "law" = some (.ref fa)) (c : He.SaysT [] fnD tbD w K) (e : bAll (exL K) = true) :
    ∃ fd : FuncData, (∀ (s : Shared) (v : Value), BindsTo s fd ⟨[v], []⟩ [("script", v)]) ∧ ∀ base : Heap, K.In base → base.Ns mainGlobals mg → FnOk l.prog w K mg base CX0 231 fa fd ["script"] (sp_law K) := by
  obtain ⟨_, F⟩ := c.d.def_ 0 (d := d_run_of) rfl
  obtain ⟨_, _, _, _, _, _, _, _, _, l_run_of, c_run_of, k_run_of⟩ := fun0 F
  obtain ⟨_, F⟩ := c.d.def_ 1 (d := d_token_at) rfl
  obtain ⟨_, _, _, _, _, _, _, _, _, l_token_at, c_token_at, k_token_at⟩ := fun0 F
  obtain ⟨_, F⟩ := c.d.def_ 2 (d := d_tokens) rfl
  obtain ⟨_, _, _, _, _, _, _, _, _, l_tokens, c_tokens, k_tokens⟩ := fun0 F
  obtain ⟨_, F⟩ := c.d.def_ 3 (d := d_is_name) rfl
  obtain ⟨_, _, _, _, _, _, _, _, _, l_is_name, c_is_name, k_is_name⟩ := fun0 F
  obtain ⟨_, F⟩ := c.d.def_ 4 (d := d_is_integer) rfl
  obtain ⟨_, _, _, _, _, _, _, _, _, l_is_integer, c_is_integer, k_is_integer⟩ := fun0 F
  obtain ⟨_, F⟩ := c.d.def_ 5 (d := d_deeper) rfl
  obtain ⟨_, _, _, _, _, _, _, _, _, l_deeper, c_deeper, k_deeper⟩ := fun0 F
  obtain ⟨_, F⟩ := c.d.def_ 6 (d := d_Reader_init) rfl
  obtain ⟨_, _, _, _, _, _, _, _, _, l_Reader_init, c_Reader_init, k_Reader_init⟩ := fun0 F
  obtain ⟨_, F⟩ := c.d.def_ 7 (d := d_Reader_ahead) rfl
  obtain ⟨_, _, _, _, _, _, _, _, _, l_Reader_ahead, c_Reader_ahead, k_Reader_ahead⟩ := fun0 F
  obtain ⟨_, F⟩ := c.d.def_ 8 (d := d_Reader_take) rfl
  obtain ⟨_, _, _, _, _, _, _, _, _, l_Reader_take, c_Reader_take, k_Reader_take⟩ := fun0 F
  obtain ⟨_, F⟩ := c.d.def_ 9 (d := d_Reader_skip) rfl
  obtain ⟨_, _, _, _, _, _, _, _, _, l_Reader_skip, c_Reader_skip, k_Reader_skip⟩ := fun0 F
  obtain ⟨_, F⟩ := c.d.def_ 10 (d := d_Reader_demand) rfl
  obtain ⟨_, _, _, _, _, _, _, _, _, l_Reader_demand, c_Reader_demand, k_Reader_demand⟩ := fun0 F
  obtain ⟨_, F⟩ := c.d.def_ 11 (d := d_Reader_read_args) rfl
  obtain ⟨_, _, _, _, _, _, _, _, _, l_Reader_read_args, c_Reader_read_args, k_Reader_read_args⟩ := fun0 F
  obtain ⟨_, F⟩ := c.d.def_ 12 (d := d_Reader_read_part) rfl
  obtain ⟨_, _, _, _, _, _, _, _, _, l_Reader_read_part, c_Reader_read_part, k_Reader_read_part⟩ := fun0 F
  obtain ⟨_, F⟩ := c.d.def_ 13 (d := d_Reader_read_sign) rfl
  obtain ⟨_, _, _, _, _, _, _, _, _, l_Reader_read_sign, c_Reader_read_sign, k_Reader_read_sign⟩ := fun0 F
  obtain ⟨_, F⟩ := c.d.def_ 14 (d := d_Reader_read_product) rfl
  obtain ⟨_, _, _, _, _, _, _, _, _, l_Reader_read_product, c_Reader_read_product, k_Reader_read_product⟩ := fun0 F
  obtain ⟨_, F⟩ := c.d.def_ 15 (d := d_Reader_read_sum) rfl
  obtain ⟨_, _, _, _, _, _, _, _, _, l_Reader_read_sum, c_Reader_read_sum, k_Reader_read_sum⟩ := fun0 F
  obtain ⟨_, F⟩ := c.d.def_ 16 (d := d_Reader_check_end) rfl
  obtain ⟨_, _, _, _, _, _, _, _, _, l_Reader_check_end, c_Reader_check_end, k_Reader_check_end⟩ := fun0 F
  obtain ⟨_, F⟩ := c.d.def_ 17 (d := d_read_formula) rfl
  obtain ⟨_, _, _, _, _, _, _, _, _, l_read_formula, c_read_formula, k_read_formula⟩ := fun0 F
  obtain ⟨_, F⟩ := c.d.def_ 18 (d := d_unrolled) rfl
  obtain ⟨_, _, _, _, _, _, _, _, _, l_unrolled, c_unrolled, k_unrolled⟩ := fun0 F
  obtain ⟨_, F⟩ := c.d.def_ 19 (d := d_trees_in) rfl
  obtain ⟨_, _, _, _, _, _, _, _, _, l_trees_in, c_trees_in, k_trees_in⟩ := fun0 F
  obtain ⟨_, F⟩ := c.d.def_ 20 (d := d_names_of) rfl
  obtain ⟨_, _, _, _, _, _, _, _, _, l_names_of, c_names_of, k_names_of⟩ := fun0 F
  obtain ⟨_, F⟩ := c.d.def_ 21 (d := d_operand_text) rfl
  obtain ⟨_, _, _, _, _, _, _, _, _, l_operand_text, c_operand_text, k_operand_text⟩ := fun0 F
  obtain ⟨_, F⟩ := c.d.def_ 22 (d := d_single_text) rfl
  obtain ⟨_, _, _, _, _, _, _, _, _, l_single_text, c_single_text, k_single_text⟩ := fun0 F
  obtain ⟨_, F⟩ := c.d.def_ 23 (d := d_plain_text) rfl
  obtain ⟨_, _, _, _, _, _, _, _, _, l_plain_text, c_plain_text, k_plain_text⟩ := fun0 F
  obtain ⟨_, F⟩ := c.d.def_ 24 (d := d_law_row) rfl
  obtain ⟨_, _, _, _, _, _, _, _, _, l_law_row, c_law_row, k_law_row⟩ := fun0 F
  obtain ⟨_, F⟩ := c.d.def_ 25 (d := d_law_at) rfl
  obtain ⟨_, _, _, _, _, _, _, _, _, l_law_at, c_law_at, k_law_at⟩ := fun0 F
  obtain ⟨_, F⟩ := c.d.def_ 26 (d := d_law_next) rfl
  obtain ⟨_, _, _, _, _, _, _, _, _, l_law_next, c_law_next, k_law_next⟩ := fun0 F
  obtain ⟨_, F⟩ := c.d.def_ 27 (d := d_law_tree) rfl
  obtain ⟨_, _, _, _, _, _, _, _, _, l_law_tree, c_law_tree, k_law_tree⟩ := fun0 F
  obtain ⟨_, F⟩ := c.d.def_ 28 (d := d_law_rank) rfl
  obtain ⟨_, _, _, _, _, _, _, _, _, l_law_rank, c_law_rank, k_law_rank⟩ := fun0 F
  obtain ⟨_, F⟩ := c.d.def_ 29 (d := d_law_plain26) rfl
  obtain ⟨_, _, _, _, _, _, _, _, _, l_law_plain26, c_law_plain26, k_law_plain26⟩ := fun0 F
  obtain ⟨_, F⟩ := c.d.def_ 30 (d := d_law_operand) rfl
  obtain ⟨_, _, _, _, _, _, _, _, _, l_law_operand, c_law_operand, k_law_operand⟩ := fun0 F
  obtain ⟨_, F⟩ := c.d.def_ 31 (d := d_law_levels26) rfl
  obtain ⟨_, _, _, _, _, _, _, _, _, l_law_levels26, c_law_levels26, k_law_levels26⟩ := fun0 F
  obtain ⟨_, F⟩ := c.d.def_ 32 (d := d_law_names26) rfl
  obtain ⟨_, _, _, _, _, _, _, _, _, l_law_names26, c_law_names26, k_law_names26⟩ := fun0 F
  obtain ⟨_, F⟩ := c.d.def_ 33 (d := d_law_once26) rfl
  obtain ⟨_, _, _, _, _, _, _, _, _, l_law_once26, c_law_once26, k_law_once26⟩ := fun0 F
  obtain ⟨_, F⟩ := c.d.def_ 34 (d := d_law) rfl
  obtain ⟨_, _, _, _, _, _, _, _, _, l_law, c_law, k_law⟩ := fun0 F
  obtain ⟨_, F⟩ := c.d.def_ 35 (d := d_c_ReckonError) rfl
  obtain ⟨_, _, _, _, _, _, _, _, _, _, _, _, _, _, _, _, i3_ReckonError, i4_ReckonError, i5_ReckonError, i6_ReckonError⟩ := funS2 F
  obtain ⟨_, F⟩ := c.d.def_ 36 (d := d_c_BadForm) rfl
  obtain ⟨_, _, _, _, _, _, _, _, _, _, _, _, _, _, _, i3_BadForm, i4_BadForm, i5_BadForm, i6_BadForm⟩ := funS F
  obtain ⟨_, _, kl_FUNCTIONS, kk_FUNCTIONS, ks_FUNCTIONS⟩ := c.tab 0 rfl
  obtain ⟨_, _, kl_MARKS_OF, kk_MARKS_OF, ks_MARKS_OF⟩ := c.tab 1 rfl
  obtain ⟨_, _, kl_PRODUCTS, kk_PRODUCTS, ks_PRODUCTS⟩ := c.tab 2 rfl
  obtain ⟨_, _, kl_RANKS, kk_RANKS, ks_RANKS⟩ := c.tab 3 rfl
  obtain ⟨_, _, kl_SIGNS, kk_SIGNS, ks_SIGNS⟩ := c.tab 4 rfl
  obtain ⟨_, _, kl_SUMS, kk_SUMS, ks_SUMS⟩ := c.tab 5 rfl
  obtain ⟨_, w_DIGITS⟩ := conN_S (bAll_at e 6 rfl)
  obtain ⟨_, w_LETTERS⟩ := conN_S (bAll_at e 7 rfl)
  obtain ⟨_, w_MAX_FIGURES⟩ := conN_I (bAll_at e 8 rfl)
  obtain ⟨_, w_MAX_LEVELS⟩ := conN_I (bAll_at e 9 rfl)
  obtain ⟨_, w_MAX_NAME⟩ := conN_I (bAll_at e 10 rfl)
  obtain ⟨_, w_MAX_TEXT⟩ := conN_I (bAll_at e 11 rfl)
  obtain ⟨_, w_SINGLE⟩ := conN_I (bAll_at e 12 rfl)
  obtain ⟨_, w_SMALL_LETTERS⟩ := conN_S (bAll_at e 13 rfl)
  obtain ⟨_, _, _, _, _, _, _, _, _, _, _, _, _, _, o1_BadForm, o2_BadForm⟩ := errN_ok (bAll_at e 14 rfl)
  exact all_mk X G hfa (He.eqO_ok (bAll_at e 15 rfl))
    (bAll_at e 16 rfl)
    (bAll_at e 17 rfl)
    (bAll_at e 18 rfl)
    (He.eqO_ok (bAll_at e 19 rfl))
    (bAll_at e 20 rfl)
    (bAll_at e 21 rfl)
    (He.eqO_ok (bAll_at e 22 rfl))
    (He.eqO_ok (bAll_at e 23 rfl))
    (He.eqO_ok (bAll_at e 24 rfl))
    l_run_of
    c_run_of
    k_run_of
    (He.eqO_ok (bAll_at e 25 rfl))
    l_token_at
    c_token_at
    k_token_at
    (He.eqO_ok (bAll_at e 26 rfl))
    l_tokens
    c_tokens
    k_tokens
    (He.eqO_ok (bAll_at e 27 rfl))
    l_is_name
    c_is_name
    k_is_name
    (He.eqO_ok (bAll_at e 28 rfl))
    l_is_integer
    c_is_integer
    k_is_integer
    (He.eqO_ok (bAll_at e 29 rfl))
    l_deeper
    c_deeper
    k_deeper
    (He.eqO_ok (bAll_at e 30 rfl))
    (bAll_at e 31 rfl)
    l_Reader_init
    c_Reader_init
    k_Reader_init
    (He.eqO_ok (bAll_at e 32 rfl))
    (bAll_at e 33 rfl)
    l_Reader_ahead
    c_Reader_ahead
    k_Reader_ahead
    (He.eqO_ok (bAll_at e 34 rfl))
    (bAll_at e 35 rfl)
    l_Reader_take
    c_Reader_take
    k_Reader_take
    (He.eqO_ok (bAll_at e 36 rfl))
    (bAll_at e 37 rfl)
    l_Reader_skip
    c_Reader_skip
    k_Reader_skip
    (He.eqO_ok (bAll_at e 38 rfl))
    (bAll_at e 39 rfl)
    l_Reader_demand
    c_Reader_demand
    k_Reader_demand
    (He.eqO_ok (bAll_at e 40 rfl))
    (bAll_at e 41 rfl)
    l_Reader_read_args
    c_Reader_read_args
    k_Reader_read_args
    (He.eqO_ok (bAll_at e 42 rfl))
    (bAll_at e 43 rfl)
    l_Reader_read_part
    c_Reader_read_part
    k_Reader_read_part
    (He.eqO_ok (bAll_at e 44 rfl))
    (bAll_at e 45 rfl)
    l_Reader_read_sign
    c_Reader_read_sign
    k_Reader_read_sign
    (He.eqO_ok (bAll_at e 46 rfl))
    (bAll_at e 47 rfl)
    l_Reader_read_product
    c_Reader_read_product
    k_Reader_read_product
    (He.eqO_ok (bAll_at e 48 rfl))
    (bAll_at e 49 rfl)
    l_Reader_read_sum
    c_Reader_read_sum
    k_Reader_read_sum
    (He.eqO_ok (bAll_at e 50 rfl))
    (bAll_at e 51 rfl)
    l_Reader_check_end
    c_Reader_check_end
    k_Reader_check_end
    (He.eqO_ok (bAll_at e 52 rfl))
    l_read_formula
    c_read_formula
    k_read_formula
    (He.eqO_ok (bAll_at e 53 rfl))
    l_unrolled
    c_unrolled
    k_unrolled
    (He.eqO_ok (bAll_at e 54 rfl))
    l_trees_in
    c_trees_in
    k_trees_in
    (He.eqO_ok (bAll_at e 55 rfl))
    l_names_of
    c_names_of
    k_names_of
    (He.eqO_ok (bAll_at e 56 rfl))
    l_operand_text
    c_operand_text
    k_operand_text
    (He.eqO_ok (bAll_at e 57 rfl))
    l_single_text
    c_single_text
    k_single_text
    (He.eqO_ok (bAll_at e 58 rfl))
    l_plain_text
    c_plain_text
    k_plain_text
    (He.eqO_ok (bAll_at e 59 rfl))
    l_law_row
    c_law_row
    k_law_row
    (He.eqO_ok (bAll_at e 60 rfl))
    l_law_at
    c_law_at
    k_law_at
    (He.eqO_ok (bAll_at e 61 rfl))
    l_law_next
    c_law_next
    k_law_next
    (He.eqO_ok (bAll_at e 62 rfl))
    l_law_tree
    c_law_tree
    k_law_tree
    (He.eqO_ok (bAll_at e 63 rfl))
    l_law_rank
    c_law_rank
    k_law_rank
    (He.eqO_ok (bAll_at e 64 rfl))
    l_law_plain26
    c_law_plain26
    k_law_plain26
    (He.eqO_ok (bAll_at e 65 rfl))
    l_law_operand
    c_law_operand
    k_law_operand
    (He.eqO_ok (bAll_at e 66 rfl))
    l_law_levels26
    c_law_levels26
    k_law_levels26
    (He.eqO_ok (bAll_at e 67 rfl))
    l_law_names26
    c_law_names26
    k_law_names26
    (He.eqO_ok (bAll_at e 68 rfl))
    l_law_once26
    c_law_once26
    k_law_once26
    (He.eqO_ok (bAll_at e 69 rfl))
    l_law
    c_law
    k_law
    (He.eqO_ok (bAll_at e 70 rfl))
    (bAll_at e 71 rfl)
    (of_decide_eq_true (bAll_at e 72 rfl))
    (of_decide_eq_true (bAll_at e 73 rfl))
    (He.eqO_ok (bAll_at e 74 rfl))
    (He.eqO_ok (bAll_at e 75 rfl))
    (bAll_at e 76 rfl)
    (He.eqO_ok (bAll_at e 77 rfl))
    (of_decide_eq_true (bAll_at e 78 rfl))
    (He.eqO_ok (bAll_at e 79 rfl))
    (bAll_at e 80 rfl)
    (of_decide_eq_true (bAll_at e 81 rfl))
    (of_decide_eq_true (bAll_at e 82 rfl))
    (He.eqO_ok (bAll_at e 83 rfl))
    (He.eqO_ok (bAll_at e 84 rfl))
    (bAll_at e 85 rfl)
    (He.eqO_ok (bAll_at e 86 rfl))
    (of_decide_eq_true (bAll_at e 87 rfl))
    (fndN_ok (bAll_at e 88 rfl))
    (He.eqO_ok (bAll_at e 89 rfl))
    (of_decide_eq_true (bAll_at e 90 rfl))
    i3_ReckonError
    i4_ReckonError
    i5_ReckonError
    i6_ReckonError
    (bAll_at e 91 rfl)
    (He.eqO_ok (bAll_at e 92 rfl))
    (fndN_ok (bAll_at e 93 rfl))
    (He.eqO_ok (bAll_at e 94 rfl))
    (of_decide_eq_true (bAll_at e 95 rfl))
    i3_BadForm
    i4_BadForm
    i5_BadForm
    i6_BadForm
    o1_BadForm
    o2_BadForm
    (He.eqO_ok (bAll_at e 96 rfl))
    (He.eqO_ok (bAll_at e 97 rfl))
    (He.eqO_ok (bAll_at e 98 rfl))
    (of_decide_eq_true (bAll_at e 99 rfl))
    (He.eqO_ok (bAll_at e 100 rfl))
    (He.eqO_ok (bAll_at e 101 rfl))
    (He.eqO_ok (bAll_at e 102 rfl))
    (He.eqO_ok (bAll_at e 103 rfl))
    (He.eqO_ok (bAll_at e 104 rfl))
    (He.eqO_ok (bAll_at e 105 rfl))
    (He.eqO_ok (bAll_at e 106 rfl))
    (He.eqO_ok (bAll_at e 107 rfl))
    (He.eqO_ok (bAll_at e 108 rfl))
    (He.eqO_ok (bAll_at e 109 rfl))
    w_DIGITS
    w_LETTERS
    w_MAX_FIGURES
    w_MAX_LEVELS
    w_MAX_NAME
    w_MAX_TEXT
    w_SINGLE
    w_SMALL_LETTERS
    (He.eqO_ok (bAll_at e 110 rfl))
    ((datN_ok (bAll_at e 111 rfl)).trans (congrArg some (by kernel_rfl)))
    (He.eqO_ok (bAll_at e 112 rfl))
    ((datN_ok (bAll_at e 113 rfl)).trans (congrArg some (by kernel_rfl)))
    (He.eqO_ok (bAll_at e 114 rfl))
    ((datN_ok (bAll_at e 115 rfl)).trans (congrArg some (by kernel_rfl)))
    (He.eqO_ok (bAll_at e 116 rfl))
    kl_FUNCTIONS
    kk_FUNCTIONS
    (entN_ok kl_FUNCTIONS (bAll_at e 0 rfl))
    ks_FUNCTIONS
    (He.eqO_ok (bAll_at e 117 rfl))
    kl_MARKS_OF
    kk_MARKS_OF
    (entN_ok kl_MARKS_OF (bAll_at e 1 rfl))
    ks_MARKS_OF
    (He.eqO_ok (bAll_at e 118 rfl))
    kl_PRODUCTS
    kk_PRODUCTS
    (entN_ok kl_PRODUCTS (bAll_at e 2 rfl))
    ks_PRODUCTS
    (He.eqO_ok (bAll_at e 119 rfl))
    kl_RANKS
    kk_RANKS
    (entN_ok kl_RANKS (bAll_at e 3 rfl))
    ks_RANKS
    (He.eqO_ok (bAll_at e 120 rfl))
    kl_SIGNS
    kk_SIGNS
    (entN_ok kl_SIGNS (bAll_at e 4 rfl))
    ks_SIGNS
    (He.eqO_ok (bAll_at e 121 rfl))
    kl_SUMS
    kk_SUMS
    (entN_ok kl_SUMS (bAll_at e 5 rfl))
    ks_SUMS
end Sk
open PySem PySem.W PyProof.Rows
set_option maxRecDepth 100000 in
set_option maxHeartbeats 0 in
theorem PySem.Challenge.cw_sandreckoner_k26_formulas_read_holds : PySem.Challenge.rw_sandreckoner_k26_formulas_read.Holds := by
  w_on; o_law
  refine HandSHeadRun.head_any (r := Sk.rowL) (q := Sk.viewL) (H := Sk.hookN Sk.adL Sk.fnD Sk.tbD Sk.exL) (ob := Sk.obN Sk.adL Sk.fnD Sk.tbD Sk.exL) (M := 20000) (loose := Sk.looseL) (d := HandSHeadRun.topDef Sk.rowL.prog 48) (kwd := []) (fun s => Sk.obN_eq s) (by kernel_rfl) (fun s => by kernel_rfl) Sk.head_run (by kernel_rfl) (by kernel_rfl) (by kernel_rfl) (by rfl) (by first | assumption | decide +kernel) (by decide +kernel) ⟨rfl, rfl, rfl, rfl, rfl, by decide +kernel⟩ ?hw ?hc
  case hw => w_witness2
  case hc => exact L2.walk_ofE (n := 63) (k := 231) (x := "script") (CX := L2.CX0) rfl (by decide) rfl ⟨rfl, by decide, by decide⟩ (fun w mg fa h Y G hmg => by
    obtain ⟨K, KX, c, e⟩ := Y
    obtain ⟨fd, hb, hF⟩ := Sk.head_facts (l := PySem.Challenge.rw_sandreckoner_k26_formulas_read) KX G hmg c e
    exact ⟨K, fd, Sk.sp_law K, KX, hb, fun H a ns hl _ hS => ⟨.ref a, _, rfl, ⟨a, ns, rfl, hS, hl, rfl⟩, fun _ _ _ z => z⟩, hF⟩) fun _ _ _ _ z => z
