import PyProof.Rows.All
import Wide.All
import OpenK.AllK
import Wide.FinOn
import HandS.ForMost
import HandS.Evl
import HandS.Style
import HandS.Conv
import HandS.WideBits
import HandS.ForExc
import HandS.IsInst
import HandS.ExcIs
import HandS.Strs
import HandS.Deep
import KE.KExcIs
import HandS.Defaults
import HandS.ExcInit
import HandS.ClsMeth
import PySem.Challenge.RW_sandreckoner_k15_remainders_of_plain_num
set_option Elab.async false
set_option linter.all false
set_option maxRecDepth 100000
set_option maxHeartbeats 4000000
set_option Elab.async false
set_option linter.all false
set_option maxRecDepth 100000
set_option maxHeartbeats 2000000
namespace Sk
open PySem L2 Evl

abbrev VP := V → Hp → Prop
/-- an expression that evaluates to something of R, the heap growing -/
def ER (te : TE) (σ : L2.St) (H : Hp) (R : VP) : Prop := ∀ H1, Ex H H1 → ∀ Q : VK, (∀ v H2, Ex H1 H2 → R v H2 → Q v H2) → te σ H1 Q
def EA (ta : TA) (σ : L2.St) (H : Hp) (R : List V → Hp → Prop) : Prop := ∀ H1, Ex H H1 → ∀ Q : List V → Hp → Prop, (∀ v H2, Ex H1 H2 → R v H2 → Q v H2) → ta σ H1 Q
/-- a call's promise: handed vs it gives something of R -/
def SR (sp : Sp) (vs : List V) (H : Hp) (R : VP) : Prop := ∀ (Q : VK) (E : XK), (∀ v H2, Ex H H2 → R v H2 → Q v H2) → sp vs H Q E
def Mono (R : VP) : Prop := ∀ v H H', Ex H H' → R v H → R v H'
def MonoL (R : List V → Hp → Prop) : Prop := ∀ v H H', Ex H H' → R v H → R v H'

section
variable {K : PySem.W.Frag} {σ : L2.St} {H H' : Hp} {te tl : TE} {ta tr : TA} {v : V} {R R' : VP} {D : Ends} {tz : TS} {i : Nat}
theorem ER.imp (h : ER te σ H R) (k : ∀ v H2, Ex H H2 → R v H2 → R' v H2) : ER te σ H R' := fun H1 e Q q => h H1 e Q fun v H2 e2 r => q v H2 e2 (k v H2 (e.trans e2) r)
theorem ER.mono (e : Ex H H') (h : ER te σ H R) : ER te σ H' R := fun H1 e1 Q q => h H1 (e.trans e1) Q q
theorem er_ev (h : Ev te σ H v) (hR : ∀ H1, Ex H H1 → R v H1) : ER te σ H R := fun H1 e Q q => h H1 e Q fun H2 e2 => q v H2 e2 (hR H2 (e.trans e2))
theorem er_is (h : Ev te σ H v) : ER te σ H (fun w _ => w = v) := er_ev h fun _ _ => rfl
theorem ev_er (h : ER te σ H (fun w _ => w = v)) : Ev te σ H v := fun H1 e Q q => h H1 e Q fun w H2 e2 r => by subst r; exact q H2 e2
theorem ev_of_er {w : V} (h : ER te σ H R) (k : ∀ v H2, Ex H H2 → R v H2 → v = w) : Ev te σ H w := ev_er (h.imp fun v H2 e r => k v H2 e r)
theorem er_var (h : σ[i]? = some (some v)) (hR : ∀ H1, Ex H H1 → R v H1) : ER (tVar i) σ H R := er_ev (ev_var h) hR
theorem ea_nil' : EA tNil σ H (fun vs _ => vs = []) := fun H1 _ Q q => q [] H1 (Ex.refl H1) rfl
theorem ea_cons' {R1 : VP} {R2 : List V → Hp → Prop} (h : ER te σ H R1) (m : Mono R1) (hr : EA tr σ H R2) : EA (tCons te tr) σ H (fun vs H2 => ∃ v r, vs = v :: r ∧ R1 v H2 ∧ R2 r H2) := fun H1 e Q q =>
  h H1 e _ fun v H2 e2 r1 => hr H2 (e.trans e2) _ fun r H3 e3 r2 => q _ H3 (e2.trans e3) ⟨v, r, rfl, m v H2 H3 e3 r1, r2⟩
theorem ea_imp {R1 R2 : List V → Hp → Prop} (h : EA ta σ H R1) (k : ∀ v H2, Ex H H2 → R1 v H2 → R2 v H2) : EA ta σ H R2 := fun H1 e Q q => h H1 e Q fun v H2 e2 r => q v H2 e2 (k v H2 (e.trans e2) r)
theorem ea_ev {vs : List V} (h : EvA ta σ H vs) : EA ta σ H (fun ws _ => ws = vs) := fun H1 e Q q => h H1 e Q fun H2 e2 => q vs H2 e2 rfl
theorem ea_one (h : ER te σ H R) (m : Mono R) : EA (tCons te tNil) σ H (fun vs H2 => ∃ v, vs = [v] ∧ R v H2) := ea_imp (ea_cons' h m ea_nil') fun vs H2 _ ⟨v, r, e1, r1, e2⟩ => ⟨v, by rw [e1, e2], r1⟩
theorem ea_two {te' : TE} (h : ER te σ H R) (m : Mono R) (h' : ER te' σ H R') (m' : Mono R') : EA (tCons te (tCons te' tNil)) σ H (fun vs H2 => ∃ v w, vs = [v, w] ∧ R v H2 ∧ R' w H2) :=
  ea_imp (ea_cons' h m (ea_one h' m')) fun vs H2 _ ⟨v, r, e1, r1, w, e2, r2⟩ => ⟨v, w, by rw [e1, e2], r1, r2⟩
theorem ea_three {te' te'' : TE} {R'' : VP} (h : ER te σ H R) (m : Mono R) (h' : ER te' σ H R') (m' : Mono R') (h'' : ER te'' σ H R'') (m'' : Mono R'') : EA (tCons te (tCons te' (tCons te'' tNil))) σ H (fun vs H2 => ∃ v w z, vs = [v, w, z] ∧ R v H2 ∧ R' w H2 ∧ R'' z H2) :=
  ea_imp (ea_cons' h m (ea_two h' m' h'' m'')) fun vs H2 _ ⟨v, r, e1, r1, w, z, e2, r2, r3⟩ => ⟨v, w, z, by rw [e1, e2], r1, r2, r3⟩
theorem er_call {sp : Sp} {E : XK} {RA : List V → Hp → Prop} (h : EA ta σ H RA) (k : ∀ vs H1, Ex H H1 → RA vs H1 → SR sp vs H1 R) : ER (tCall sp [] E ta) σ H R := fun H1 e Q q =>
  h H1 e _ fun vs H2 e2 r => by
    show sp (vs ++ []) H2 Q E
    rw [List.append_nil]
    exact k vs H2 (e.trans e2) r Q E fun v H3 e3 rv => q v H3 (e2.trans e3) rv
theorem er_callS {sp : Sp} {E : L2.St → XK} {RA : List V → Hp → Prop} (h : EA ta σ H RA) (k : ∀ vs H1, Ex H H1 → RA vs H1 → SR sp vs H1 R) : ER (tCallS sp E ta) σ H R := fun H1 e Q q =>
  h H1 e _ fun vs H2 e2 r => k vs H2 (e.trans e2) r Q (E σ) fun v H3 e3 rv => q v H3 (e2.trans e3) rv
/-- a tuple is made -/
theorem er_tup {RA : List V → Hp → Prop} (h : EA ta σ H RA) (m : MonoL RA) (hz : ∀ vs H2, RA vs H2 → vs.length ≤ 100000) : ER (tTup ta) σ H (fun v H2 => ∃ p vs, v = .ref p ∧ H2 p = some (.tup vs) ∧ RA vs H2) := fun H1 e Q q =>
  h H1 e _ fun vs H2 e2 r => ⟨sz_of (hz vs H2 r), fun p hp => q _ _ (e2.trans (Ex.new hp)) ⟨p, vs, rfl, upd_same, m vs H2 _ (Ex.new hp) r⟩⟩
theorem er_lst {RA : List V → Hp → Prop} (h : EA ta σ H RA) (m : MonoL RA) (hz : ∀ vs H2, RA vs H2 → vs.length ≤ 100000) : ER (tLst ta) σ H (fun v H2 => ∃ p vs, v = .ref p ∧ H p = none ∧ H2 p = some (.lst vs) ∧ RA vs H2) := fun H1 e Q q =>
  h H1 e _ fun vs H2 e2 r => ⟨sz_of (hz vs H2 r), fun p hp => q _ _ (e2.trans (Ex.new hp)) ⟨p, vs, rfl, fresh_back e (fresh_back e2 hp), upd_same, m vs H2 _ (Ex.new hp) r⟩⟩
/-- statements -/
theorem s_asgR (h : ER te σ H R) (k : ∀ v H1, Ex H H1 → R v H1 → D.nx (σ.set i (some v)) H1) : tAsg te (gName i) D σ H := h H (Ex.refl H) _ fun v H1 e r => k v H1 e r
theorem q_asgR (h : ER te σ H R) (k : ∀ v H1, Ex H H1 → R v H1 → tz D (σ.set i (some v)) H1) : tSeq (tAsg te (gName i)) tz D σ H := s_asgR (D := { D with nx := tz D }) h k
theorem s_retR (h : ER te σ H R) (k : ∀ v H1, Ex H H1 → R v H1 → D.rt v H1) : tRet te D σ H := h H (Ex.refl H) _ fun v H1 e r => k v H1 e r
theorem s_dropR (h : ER te σ H R) (k : ∀ v H1, Ex H H1 → R v H1 → D.nx σ H1) : tDrop te D σ H := h H (Ex.refl H) _ fun v H1 e r => k v H1 e r
theorem q_dropR (h : ER te σ H R) (k : ∀ v H1, Ex H H1 → R v H1 → tz D σ H1) : tSeq (tDrop te) tz D σ H := s_dropR (D := { D with nx := tz D }) h k
/-- xs.append(e), e of R -/
theorem s_appR {l : Addr} {xs : List V} (hl : H l = some (.lst xs)) (hv : Ev tl σ H (.ref l)) (h : ER te σ H R) (hz : xs.length < 100000) (k : ∀ v H1, Ex H H1 → R v H1 → D.nx σ (upd H1 l (.lst (xs ++ [v])))) :
    tDrop (tBM K "list" rAppend tl (tCons te tNil)) D σ H := hv H (Ex.refl H) _ fun H1 e1 =>
  ⟨Or.inl ⟨rfl, xs, sq_of (e1 l _ hl)⟩, h H1 e1 _ fun v H2 e2 r => ⟨l, xs, v, rfl, rfl, e2 l _ (e1 l _ hl), sz_lt hz, k v H2 (e1.trans e2) r⟩⟩
theorem q_appR {l : Addr} {xs : List V} (hl : H l = some (.lst xs)) (hv : Ev tl σ H (.ref l)) (h : ER te σ H R) (hz : xs.length < 100000) (k : ∀ v H1, Ex H H1 → R v H1 → tz D σ (upd H1 l (.lst (xs ++ [v])))) :
    tSeq (tDrop (tBM K "list" rAppend tl (tCons te tNil))) tz D σ H := s_appR (D := { D with nx := tz D }) hl hv h hz k
/-- (u, w) unpacked into two names -/
theorem g_pair {a : Addr} {u w : V} {i j : Nat} {Q : L2.St → Hp → Prop} (h : SqT K H a [u, w]) (q : Q ((σ.set i (some u)).set j (some w)) H) : gTup K 2 (gCons (gName i) (gCons (gName j) gNil)) (.ref a) σ H Q :=
  ⟨a, [u, w], rfl, h, rfl, u, [w], rfl, w, [], rfl, rfl, q⟩
theorem g_trip {a : Addr} {u w z : V} {i j l : Nat} {Q : L2.St → Hp → Prop} (h : SqT K H a [u, w, z]) (q : Q (((σ.set i (some u)).set j (some w)).set l (some z)) H) : gTup K 3 (gCons (gName i) (gCons (gName j) (gCons (gName l) gNil))) (.ref a) σ H Q :=
  ⟨a, [u, w, z], rfl, h, rfl, u, [w, z], rfl, w, [z], rfl, z, [], rfl, rfl, q⟩
/-- unpacking as a statement: a, b = e -/
theorem q_unpack2 {j : Nat} (h : ER te σ H R) (hR : ∀ v H1, Ex H H1 → R v H1 → ∃ a x y, v = .ref a ∧ SqT K H1 a [x, y] ∧ tz D ((σ.set i (some x)).set j (some y)) H1) :
    tSeq (tAsg te (gTup K 2 (gCons (gName i) (gCons (gName j) gNil)))) tz D σ H := h H (Ex.refl H) _ fun v H1 e r => by
  obtain ⟨a, x, y, rfl, hs, q⟩ := hR v H1 e r
  exact g_pair (Q := fun σ' H' => tz D σ' H') hs q
/-! ### comprehensions -/
theorem len_snoc {α : Type} {P : Nat → α → Prop} {ys : List α} {y : α} (h : ∀ j z, ys[j]? = some z → P j z) (hy : P ys.length y) : ∀ j z, (ys ++ [y])[j]? = some z → P j z := fun j z hz => by
  rcases Nat.lt_trichotomy j ys.length with hj | hj | hj
  · rw [List.getElem?_append_left hj] at hz; exact h j z hz
  · subst hj; rw [List.getElem?_append_right (Nat.le_refl _), Nat.sub_self] at hz; cases hz; exact hy
  · rw [List.getElem?_append_right (Nat.le_of_lt hj)] at hz
    have : j - ys.length ≠ 0 := by omega
    cases hq : j - ys.length with
    | zero => exact absurd hq this
    | succ n => rw [hq] at hz; cases hz
/-- the tuples (and what is frozen) stay -/
def TEx (H H' : Hp) : Prop := ∀ a o, H a = some o → (match o with | .tup _ => True | .frz _ _ => True | _ => False) → H' a = some o
theorem Ex.t (e : Ex H H') : TEx H H' := fun a o h _ => e a o h
theorem TEx.refl (H : Hp) : TEx H H := fun _ _ h _ => h
theorem TEx.trans {H1 H2 H3 : Hp} (a : TEx H1 H2) (b : TEx H2 H3) : TEx H1 H3 := fun x o h c => b x o (a x o h c) c
theorem TEx.put {l : Addr} {xs ys : List V} (h : H l = some (.lst xs)) : TEx H (upd H l (.lst ys)) := fun a o e c => by
  by_cases hb : a = l
  · subst hb; rw [h] at e; cases e; exact c.elim
  · rw [upd_ne hb]; exact e
def MonoT (R : VP) : Prop := ∀ v H H', TEx H H' → R v H → R v H'
theorem MonoT.mono (m : MonoT R) : Mono R := fun v H H' e r => m v H H' (Ex.t e) r
theorem tex_sqt {a : Addr} {xs : List V} (e : TEx H H') (h : SqT K H a xs) : SqT K H' a xs := by
  rcases h with (h | ⟨o, h⟩) | h
  · exact .inl (.inl (e _ _ h trivial))
  · exact .inl (.inr ⟨o, e _ _ h trivial⟩)
  · exact .inr h
/-- what a comprehension has made behind i turns -/
def Made (H : Hp) (Dl : Addr) (Ri : Nat → VP) (i : Nat) (H' : Hp) : Prop := H Dl = none ∧ Ex H H' ∧ ∃ ys : List V, H' Dl = some (.lst ys) ∧ ys.length = i ∧ ∀ j y, ys[j]? = some y → Ri j y H'
theorem Made.turn {Dl : Addr} {Ri : Nat → VP} {i : Nat} {H2 : Hp} {y : V} (m : ∀ i, MonoT (Ri i)) (M : Made H Dl Ri i H') (hi : i < 100000) (e : Ex H' H2) (r : Ri i y H2) :
    ∃ acc, H2 Dl = some (.lst acc) ∧ acc.length < sizeLine ∧ Made H Dl Ri (i + 1) (upd H2 Dl (.lst (acc ++ [y]))) := by
  obtain ⟨h1, h2, ys, h3, h4, h5⟩ := M
  have t : TEx H2 (upd H2 Dl (.lst (ys ++ [y]))) := TEx.put (e Dl _ h3)
  refine ⟨ys, e Dl _ h3, sz_lt (by omega), h1, Ex.mut (h2.trans e) h1, ys ++ [y], upd_same, by rw [List.length_append, h4]; rfl, ?_⟩
  refine len_snoc (fun j z hz => m j z _ _ ((Ex.t e).trans t) (h5 j z hz)) ?_
  rw [h4]
  exact m i y _ _ t r
/-- the list that a comprehension gives: H the heap ahead -/
def LcR (S : List V → Hp → Prop) (R : List V → Nat → VP) (H : Hp) : VP := fun v H2 => ∃ p xs ys, v = .ref p ∧ H p = none ∧ H2 p = some (.lst ys) ∧ S xs H2 ∧ ys.length = xs.length ∧ ∀ (j : Nat) (y : V), ys[j]? = some y → R xs j y H2
theorem er_lcL {g : TG} {vs : List Nat} {S : List V → Hp → Prop} {R : List V → Nat → VP} (hsrc : ER tl σ H (fun v H2 => ∃ a xs, v = .ref a ∧ SqL K H2 a xs ∧ S xs H2)) (mS : MonoL S) (hz : ∀ xs H2, S xs H2 → xs.length < 100000) (m : ∀ xs i, MonoT (R xs i))
    (hb : ∀ xs i x H1, xs[i]? = some x → Ex H H1 → S xs H1 → ∀ Qk : VK, (∀ v H2, Ex H1 H2 → R xs i v H2 → Qk v H2) → g x (wipe σ vs) H1 fun σ2 H2 => wipe σ2 vs = wipe σ vs ∧ te σ2 H2 Qk) :
    ER (tLc (iList K tl) g tYes te vs) σ H (LcR S R H) := fun H0 e0 Q q => hsrc H0 e0 _ fun v H1 e1 ⟨a, xs, hv, ha, hS⟩ => ⟨a, hv, ⟨xs, ha⟩, fun Dl hD =>
  lc_list (xs := xs) (Made H1 Dl (R xs)) ⟨hD, Ex.new hD, [], upd_same, rfl, fun j y h => by simp at h⟩ (fun i H' _ p => ex_l p.2.1 ha)
    (fun i x H' hi M => hb xs i x H' hi ((e0.trans e1).trans M.2.1) (mS xs _ _ M.2.1 hS) _ fun y H2 e2 r => M.turn (m xs) (by have := (List.getElem?_eq_some_iff.mp hi).1; have := hz xs _ hS; omega) e2 r)
    (fun H' M => by
      obtain ⟨h1, h2, ys, h3, h4, h5⟩ := M
      exact q _ H' (e1.trans h2) ⟨Dl, xs, ys, rfl, fresh_back (e0.trans e1) h1, h3, mS xs _ _ h2 hS, h4, h5⟩)⟩
theorem er_lcT {g : TG} {vs : List Nat} {S : List V → Hp → Prop} {R : List V → Nat → VP} (hsrc : ER tl σ H (fun v H2 => ∃ a xs, v = .ref a ∧ SqT K H2 a xs ∧ S xs H2)) (mS : MonoL S) (hz : ∀ xs H2, S xs H2 → xs.length < 100000) (m : ∀ xs i, MonoT (R xs i))
    (hb : ∀ xs i x H1, xs[i]? = some x → Ex H H1 → S xs H1 → ∀ Qk : VK, (∀ v H2, Ex H1 H2 → R xs i v H2 → Qk v H2) → g x (wipe σ vs) H1 fun σ2 H2 => wipe σ2 vs = wipe σ vs ∧ te σ2 H2 Qk) :
    ER (tLc (iTup K tl) g tYes te vs) σ H (LcR S R H) := fun H0 e0 Q q => hsrc H0 e0 _ fun v H1 e1 ⟨a, xs, hv, ha, hS⟩ => ⟨a, hv, ⟨xs, ha⟩, fun Dl hD =>
  lc_tup (xs := xs) (Made H1 Dl (R xs)) ⟨hD, Ex.new hD, [], upd_same, rfl, fun j y h => by simp at h⟩ (fun i H' _ p => ex_t p.2.1 ha)
    (fun i x H' hi M => hb xs i x H' hi ((e0.trans e1).trans M.2.1) (mS xs _ _ M.2.1 hS) _ fun y H2 e2 r => M.turn (m xs) (by have := (List.getElem?_eq_some_iff.mp hi).1; have := hz xs _ hS; omega) e2 r)
    (fun H' M => by
      obtain ⟨h1, h2, ys, h3, h4, h5⟩ := M
      exact q _ H' (e1.trans h2) ⟨Dl, xs, ys, rfl, fresh_back (e0.trans e1) h1, h3, mS xs _ _ h2 hS, h4, h5⟩)⟩
end
end Sk

set_option Elab.async false
set_option linter.all false
set_option maxRecDepth 100000
set_option maxHeartbeats 2000000
namespace Sk
open PySem L2 Evl
def xAdd : R2 := rI0 fun i j => .int (i + j)
def xSub : R2 := rI0 fun i j => .int (i - j)
def xMul : R2 := rI CMul fun i j => .int (i * j)
def xMulX : R2 := rI CMulX fun i j => .int (i * j)
def xMod : R2 := rI (fun _ j => 0 < j) fun i j => .int (i % j)
def xFdiv : R2 := rI CDiv fun i j => .int (i / j)
def xPow : R2 := rI CPow fun i j => .int (i ^ j.toNat)
def xShl : R2 := rI CPow fun i j => .int (i * 2 ^ j.toNat)
def xShlW : R2 := rI CShl fun i j => .int (i * 2 ^ j.toNat)
def xShr : R2 := rI (fun _ j => 0 ≤ j) fun i j => .int (i / 2 ^ j.toNat)
def xAndM : R2 := fun x y H Q => ∃ (i : Int) (k : Nat), x = .int i ∧ y = .int (2 ^ k - 1) ∧ Q (.int (i % 2 ^ k)) H
def xLt : R2 := rI0 fun i j => .bl (decide (i < j))
def xLe : R2 := rI0 fun i j => .bl (decide (i ≤ j))
def xGt : R2 := rI0 fun i j => .bl (decide (j < i))
def xGe : R2 := rI0 fun i j => .bl (decide (j ≤ i))
def xIsN : R2 := fun x y H Q => y = .non ∧ Q (.bl (decide (x = .non))) H
def xNotN : R2 := fun x y H Q => y = .non ∧ Q (.bl (!decide (x = .non))) H
def xNeg : V → Hp → VK → Prop := rU fun i => .int (-i)
def xHalf : TIp := fun x y H Q => ∃ i : Int, x = .int i ∧ y = .int 1 ∧ Q (.int (i / 2)) H
def xInt1 : List V → Hp → VK → Prop := fun xs H Q => (∃ i, xs = [.int i] ∧ Q (.int i) H) ∨ ∃ k, xs = [.bl k] ∧ Q (.int (if k then 1 else 0)) H
def xMax2 : List V → Hp → VK → Prop := fun xs H Q => ∃ i j, xs = [.int i, .int j] ∧ Q (.int (if j > i then j else i)) H
def xMin2 : List V → Hp → VK → Prop := fun xs H Q => ∃ i j, xs = [.int i, .int j] ∧ Q (.int (if j < i then j else i)) H
def xAbs : List V → Hp → VK → Prop := fun xs H Q => ∃ i, xs = [.int i] ∧ Q (.int (if i < 0 then -i else i)) H
def tTruK (K : PySem.W.Frag) (ta : TE) : TT := fun σ H Q => ta σ H fun x H' => ∃ k, TruV K x H' k ∧ Q k H'

theorem ip_half {X : Cx} : PIp X .RShift xHalf := fun pins s σ H x y v u Q I r1 r2 h => iop_halfI pins s σ H x y v u Q I r1 r2 h
theorem hu64 {A : Around} {k : Nat} (hr : Room k A) : A.units + 64 < cLine := by have := hr.un; omega
/-- a def of the module, where it stands -/
structure DefAt (K : PySem.W.Frag) (mg : Str → Option Value) (x : Str) (st : Stmt) (ps : List Str) (f : Addr) (fd : FuncData) : Prop where
  fn : Fun K x x st f fd
  m : mg x = some (.ref f)
  b : Binds K fd ps []
/-- an own error class, where it stands -/
structure ClsAt (K : PySem.W.Frag) (mg : Str → Option Value) (x : Str) (C : Addr) : Prop where
  m : mg x = some (.ref C)
  k : PySem.W.keepIn K (.ref C) = true
  sb : PySem.W.subIn K (.ref C) (.type "BaseException") = some true
  ty : PySem.W.typeIn K (.ref C) = some (.type "type")
  e : ExcC K C
/-- what of the errors' own words is told -/
def nameIn (K : PySem.W.Frag) (C : Addr) : Option Str := (PySem.W.clsIn K C).map (·.name)
def wordOf (x : Str) : Str := if x = "NotAllowed" then "refused" else if x = "BadForm" then "form" else if x = "BadRange" then "range" else if x = "TooLarge" then "large" else if x = "Missing" then "missing" else if x = "Ring" then "ring" else "steps"
/-- what a raised error carries -/
def ErrAt (K : PySem.W.Frag) (C d : Addr) (H : Hp) : Prop := ∃ x, nameIn K C = some x ∧ H d = some (.xd [("word", .str (wordOf x))])
theorem ErrAt.ex {K : PySem.W.Frag} {C d : Addr} {H H' : Hp} (h : ErrAt K C d H) (e : Ex H H') : ErrAt K C d H' := let ⟨x, h1, h2⟩ := h; ⟨x, h1, e _ _ h2⟩
/-- raise X('..') -/
def tRaise (K : PySem.W.Frag) (E : XK) (C : Addr) : TS := fun _ _ H => ∀ H', Ex H H' → ∀ d, ErrAt K C d H' → E (.ref C) (some d) H'
/-- isinstance(e, C), isinstance(e, (C1, C2)), e the error that the suite holds, with its dict -/
def Cau (D : Addr) (cls : Value) (d : Option Addr) (H : Hp) : Prop := cls = .ref D ∧ ∃ dd fs, d = some dd ∧ H dd = some (.xd fs)
theorem ErrAt.cau {K : PySem.W.Frag} {C d : Addr} {H : Hp} (h : ErrAt K C d H) : Cau C (.ref C) (some d) H := let ⟨_, _, h2⟩ := h; ⟨rfl, d, _, rfl, h2⟩
def rIsEc (K : PySem.W.Frag) (D a : Addr) (cls : Value) (d : Option Addr) : List V → Hp → VK → Prop := fun xs H Q => Cau D cls d H ∧ rIsE K D a xs H Q
def rIsET (K : PySem.W.Frag) (D a : Addr) : List V → Hp → VK → Prop := fun xs H Q => ∃ (tp : Addr) (cs : List V) (us : List Value) (b : Bool), xs = [.ref a, .ref tp] ∧ H tp = some (.tup cs) ∧ Paired ClsV cs us ∧ PySem.W.kitAny K (.ref D) us = some b ∧ Q (.bl b) H
def rIsETc (K : PySem.W.Frag) (D a : Addr) (cls : Value) (d : Option Addr) : List V → Hp → VK → Prop := fun xs H Q => Cau D cls d H ∧ rIsET K D a xs H Q
theorem cau_at {X : Cx} {a D : Addr} {oe : Obj} {pn pins : List (Addr × Obj)} {cls : Value} {d : Option Addr} {σ : L2.St} {H : Hp} {s : Shared} (hz : Zc cls d oe) (hf : ∃ vs, oe.data = .fields vs) (I : Inv (X.suite a ((a, oe) :: pn)) pins σ H s) (h : Cau D cls d H) :
    ∃ od, PySem.W.InstAt s.heap a oe D (some od) := by
  obtain ⟨rfl, dd, fs, rfl, hd⟩ := h
  obtain ⟨mA, hns, -⟩ := (show ObjOk X.prog X.w H s.heap dd (.xd fs) from I.hok dd _ hd)
  obtain ⟨od, ho, -⟩ := lookIn_ns hns
  obtain ⟨vs, hv⟩ := hf
  exact ⟨od, (I.pin (a, oe) (List.mem_append.mpr (.inl List.mem_cons_self))).1, hz.1, (by unfold PySem.W.notCls; rw [hv] <;> rfl), (by rw [hz.2]; exact ho)⟩
theorem cau_kit {K : PySem.W.Frag} {D a : Addr} {oe od : Obj} (C : ExcC K D) : PySem.W.KitX K (.ref a) (.ref D) (fun h => PySem.W.InstAt h a oe D (some od)) :=
  PySem.W.kitx_exc (by obtain ⟨cd, hc, _⟩ := PySem.W.any_some C.hd; rw [hc]; rfl) C.hg C.hk C.hs C.ha C.hn C.ht C.hm
theorem call_isEc {X : Cx} {a D : Addr} {oe : Obj} {pn : List (Addr × Obj)} {cls : Value} {d : Option Addr} (C : ExcC X.K D) (hz : Zc cls d oe) (hf : ∃ vs, oe.data = .fields vs) : CallR (X.suite a ((a, oe) :: pn)) (.builtin "isinstance") (rIsEc X.K D a cls d) := by
  intro pins s σ H xs us Q I r h
  obtain ⟨hc, c, cv, b, rfl, hcv, e, q⟩ := h
  obtain ⟨u1, u2, rfl, r1, r2⟩ := vals2 r
  cases (show u1 = Value.ref a from r1)
  cases hcv _ r2
  obtain ⟨od, J⟩ := cau_at hz hf I hc
  exact PySem.W.kia_one (cau_kit C) I.kIn J e (fun z => nomatch z) fun tk => ⟨.bl b, H, I.kept (t' := tk) fun _ _ z => z, rfl, q⟩
theorem call_isETc {X : Cx} {a D : Addr} {oe : Obj} {pn : List (Addr × Obj)} {cls : Value} {d : Option Addr} (C : ExcC X.K D) (hz : Zc cls d oe) (hf : ∃ vs, oe.data = .fields vs) : CallR (X.suite a ((a, oe) :: pn)) (.builtin "isinstance") (rIsETc X.K D a cls d) := by
  intro pins s σ H xs us Q I r h
  obtain ⟨hc, tp, cs, ws, b, rfl, hT, k, e, q⟩ := h
  obtain ⟨u1, u2, rfl, r1, r2⟩ := vals2 r
  cases (show u2 = Value.ref tp from r2)
  cases (show u1 = Value.ref a from r1)
  obtain ⟨od, J⟩ := cau_at hz hf I hc
  obtain ⟨_, its, rv, o, h1, h2, n, h3⟩ := (show ObjOk X.prog X.w H s.heap tp (.tup cs) from I.hok tp _ hT)
  have e3 := ClsV.all k rv
  subst e3
  obtain ⟨oc, od, dt, sl⟩ := o
  simp only at h2 h3
  subst h2 h3
  exact PySem.W.kia_tup (cau_kit C) I.kIn J h1 e (fun z => nomatch z) fun tk => ⟨.bl b, H, I.kept (t' := tk) fun _ _ z => z, rfl, q⟩

/-! ### values of operations -/
section
variable {K : PySem.W.Frag} {σ : L2.St} {H H' : Hp} {ta tb te : TE} {i j : Int} {v : V} {t : TT} {x y : V} {D : Ends} {tz tu : TS}
theorem ev_add (ha : Ev ta σ H (.int i)) (hb : Ev tb σ H (.int j)) : Ev (tOp xAdd ta tb) σ H (.int (i + j)) := ev_op ha hb rv_I0
theorem ev_sub (ha : Ev ta σ H (.int i)) (hb : Ev tb σ H (.int j)) : Ev (tOp xSub ta tb) σ H (.int (i - j)) := ev_op ha hb rv_I0
theorem ev_mul (ha : Ev ta σ H (.int i)) (hb : Ev tb σ H (.int j)) (c : CMul i j) : Ev (tOp xMul ta tb) σ H (.int (i * j)) := ev_op ha hb (rv_I c)
theorem ev_mulX (ha : Ev ta σ H (.int i)) (hb : Ev tb σ H (.int j)) (c : CMulX i j) : Ev (tOp xMulX ta tb) σ H (.int (i * j)) := ev_op ha hb (rv_I c)
theorem ev_mod (ha : Ev ta σ H (.int i)) (hb : Ev tb σ H (.int j)) (c : 0 < j) : Ev (tOp xMod ta tb) σ H (.int (i % j)) := ev_op ha hb (rv_I c)
theorem ev_fdiv (ha : Ev ta σ H (.int i)) (hb : Ev tb σ H (.int j)) (c : CDiv i j) : Ev (tOp xFdiv ta tb) σ H (.int (i / j)) := ev_op ha hb (rv_I c)
theorem ev_pow (ha : Ev ta σ H (.int i)) (hb : Ev tb σ H (.int j)) (c : CPow i j) : Ev (tOp xPow ta tb) σ H (.int (i ^ j.toNat)) := ev_op ha hb (rv_I c)
theorem ev_shl (ha : Ev ta σ H (.int i)) (hb : Ev tb σ H (.int j)) (c : CPow i j) : Ev (tOp xShl ta tb) σ H (.int (i * 2 ^ j.toNat)) := ev_op ha hb (rv_I c)
theorem ev_andM {k : Nat} (ha : Ev ta σ H (.int i)) (hb : Ev tb σ H (.int (2 ^ k - 1))) : Ev (tOp xAndM ta tb) σ H (.int (i % 2 ^ k)) := ev_op ha hb fun H1 _ Q q => ⟨i, k, rfl, rfl, q H1 (Ex.refl H1)⟩
theorem ev_lt (ha : Ev ta σ H (.int i)) (hb : Ev tb σ H (.int j)) : Ev (tOp xLt ta tb) σ H (.bl (decide (i < j))) := ev_op ha hb rv_I0
theorem ev_le (ha : Ev ta σ H (.int i)) (hb : Ev tb σ H (.int j)) : Ev (tOp xLe ta tb) σ H (.bl (decide (i ≤ j))) := ev_op ha hb rv_I0
theorem ev_gt (ha : Ev ta σ H (.int i)) (hb : Ev tb σ H (.int j)) : Ev (tOp xGt ta tb) σ H (.bl (decide (j < i))) := ev_op ha hb rv_I0
theorem ev_ge (ha : Ev ta σ H (.int i)) (hb : Ev tb σ H (.int j)) : Ev (tOp xGe ta tb) σ H (.bl (decide (j ≤ i))) := ev_op ha hb rv_I0
theorem ev_eq (ha : Ev ta σ H x) (hb : Ev tb σ H y) (h : scal x y = true) : Ev (tOp rEq ta tb) σ H (.bl (decide (x = y))) := ev_op ha hb (rv_eq h)
theorem ev_ne (ha : Ev ta σ H x) (hb : Ev tb σ H y) (h : scal x y = true) : Ev (tOp rNe ta tb) σ H (.bl (!decide (x = y))) := ev_op ha hb (rv_ne h)
theorem ev_isN (ha : Ev ta σ H x) : Ev (tOp xIsN ta (tC .non)) σ H (.bl (decide (x = .non))) := ev_op ha ev_c fun H1 _ Q q => ⟨rfl, q H1 (Ex.refl H1)⟩
theorem ev_notN (ha : Ev ta σ H x) : Ev (tOp xNotN ta (tC .non)) σ H (.bl (!decide (x = .non))) := ev_op ha ev_c fun H1 _ Q q => ⟨rfl, q H1 (Ex.refl H1)⟩
theorem ev_neg (ha : Ev ta σ H (.int i)) : Ev (tUn xNeg ta) σ H (.int (-i)) := ev_un ha ru_neg
theorem ev_int1 (ha : Ev ta σ H (.int i)) : Ev (tCB xInt1 (tCons ta tNil)) σ H (.int i) := ev_cb (ea_cons ha ea_nil) fun H1 _ Q q => .inl ⟨i, rfl, q H1 (Ex.refl H1)⟩
theorem ev_max (ha : Ev ta σ H (.int i)) (hb : Ev tb σ H (.int j)) : Ev (tCB xMax2 (tCons ta (tCons tb tNil))) σ H (.int (if j > i then j else i)) := ev_cb (ea_cons ha (ea_cons hb ea_nil)) fun H1 _ Q q => ⟨i, j, rfl, q H1 (Ex.refl H1)⟩
theorem ev_min (ha : Ev ta σ H (.int i)) (hb : Ev tb σ H (.int j)) : Ev (tCB xMin2 (tCons ta (tCons tb tNil))) σ H (.int (if j < i then j else i)) := ev_cb (ea_cons ha (ea_cons hb ea_nil)) fun H1 _ Q q => ⟨i, j, rfl, q H1 (Ex.refl H1)⟩
theorem ev_abs (ha : Ev ta σ H (.int i)) : Ev (tCB xAbs (tCons ta tNil)) σ H (.int (if i < 0 then -i else i)) := ev_cb (ea_cons ha ea_nil) fun H1 _ Q q => ⟨i, rfl, q H1 (Ex.refl H1)⟩
theorem ev_bits (ha : Ev ta σ H (.int i)) : Ev (tBits ta) σ H (.int ((Builtin.Int.intBits i : Nat) : Int)) := fun H1 e Q q => ha H1 e _ fun H2 e2 => ⟨i, rfl, q H2 e2⟩
theorem ev_at {a : Addr} {xs : List V} {k : Int} (ho : Ev ta σ H (.ref a)) (hi : Ev tb σ H (.int k)) (hs : SqL K H a xs) (ha : atI xs k = some v) : Ev (tOp (rIxL K) ta tb) σ H v := ev_op ho hi (rv_ixL hs ha)
theorem ev_atT {a : Addr} {xs : List V} {k : Int} (ho : Ev ta σ H (.ref a)) (hi : Ev tb σ H (.int k)) (hs : SqT K H a xs) (ha : atI xs k = some v) : Ev (tOp (rIxT K) ta tb) σ H v := ev_op ho hi (rv_ixT hs ha)
theorem ev_lenL {a : Addr} {xs : List V} (ho : Ev ta σ H (.ref a)) (hs : SqL K H a xs) : Ev (tCB (rLenS K) (tCons ta tNil)) σ H (.int (xs.length : Int)) := ev_len ho hs
theorem ev_lenT {a : Addr} {xs : List V} (ho : Ev ta σ H (.ref a)) (hs : SqT K H a xs) : Ev (tCB (rLenS K) (tCons ta tNil)) σ H (.int (xs.length : Int)) := ev_cb (ea_cons ho ea_nil) fun H1 e Q q => ⟨a, xs, rfl, .inr (ex_t e hs), q H1 (Ex.refl H1)⟩
theorem et_truI (ha : Ev ta σ H (.int i)) : EvT (tTruK K ta) σ H (i != 0) := fun H1 e Q q => ha H1 e _ fun H2 e2 => ⟨_, rfl, q H2 e2⟩
theorem et_truL {a : Addr} {xs : List V} (ha : Ev ta σ H (.ref a)) (hs : SqL K H a xs) : EvT (tTruK K ta) σ H (!xs.isEmpty) := fun H1 e Q q => ha H1 e _ fun H2 e2 => ⟨_, .inl ⟨xs, ex_l (e.trans e2) hs, rfl⟩, q H2 e2⟩
theorem et_truT {a : Addr} {xs : List V} (ha : Ev ta σ H (.ref a)) (hs : SqT K H a xs) : EvT (tTruK K ta) σ H (!xs.isEmpty) := fun H1 e Q q => ha H1 e _ fun H2 e2 => ⟨_, .inr (.inl ⟨xs, ex_t (e.trans e2) hs, rfl⟩), q H2 e2⟩
theorem q_half {k : Nat} (hx : σ[k]? = some (some (.int i))) (n : tz D (σ.set k (some (.int (i / 2)))) H) : tSeq (tAug k (tC (.int 1)) xHalf) tz D σ H := ⟨.int i, hx, i, rfl, rfl, n⟩
end
/-! ### in, index: data of any depth in a tuple -/
theorem hu150 {A : Around} {k : Nat} (hr : Room k A) : A.units + 150 < cLine := by have := hr.un; omega
def rInN (K : PySem.W.Frag) : R2 := fun x y H Q => ∃ d ds, Dp K H x d ∧ Dp K H y (.tuple ds) ∧ d.canLay0 = true ∧ PyData.canLayAll0 ds = true ∧ PyData.depthAll ds ≤ 100 ∧ Q (.bl (ds.any fun z => PyData.eqv z d)) H
theorem op_inN {X : Cx} (hu : X.A.units + 150 < cLine) : OpR X (compareOp .In) (rInN X.K) := fun pins s σ H x y v u Q I rx ry ⟨d, ds, hd, he, sd, se, hz, q⟩ => by
  obtain ⟨as, r1⟩ := Dp.reads I d x v hd rx
  obtain ⟨bs, r2⟩ := Dp.reads I (.tuple ds) y u he ry
  exact SeqAt.in_tuple_reads r2 r1 se sd (by have := Nat.min_le_left (PyData.depthAll ds) d.depth; omega) ⟨.bl _, H, I, rfl, q⟩
def rIndexN (K : PySem.W.Frag) : V → List V → Hp → VK → Prop := fun x xs H Q => ∃ (a : Addr) (y : V) (d : PyData) (ds : List PyData) (j : Nat) (z : PyData), x = V.ref a ∧ xs = [y] ∧ Dp K H (V.ref a) (.tuple ds) ∧ Dp K H y d ∧
  PyData.canLayAll0 ds = true ∧ d.canLay0 = true ∧ PyData.depthAll ds ≤ 100 ∧ ds[j]? = some z ∧ PyData.eqv z d = true ∧ (∀ (m : Nat) (z' : PyData), m < j → ds[m]? = some z' → PyData.eqv z' d = false) ∧ Q (.int (j : Nat)) H
theorem mt_indexN {X : Cx} (hu : X.A.units + 150 < cLine) : MtR X "tuple.index" (rIndexN X.K) := by
  intro pins s σ H x xs v us Q I rx rxs h
  obtain ⟨a, y, d, ds, j, z, rfl, rfl, hl, hy, hxs, sd, hz0, hz, hzj, hno, q⟩ := h
  cases rx
  cases rxs with
  | cons ry rt =>
    rename_i uy ut
    cases rt
    obtain ⟨bs, r1⟩ := Dp.reads I d y uy hy ry
    have hroom : X.A.units + 1 + min (PyData.depthAll ds) d.depth < cLine := by have := Nat.min_le_left (PyData.depthAll ds) d.depth; omega
    cases hl with
    | tup hs ha =>
      obtain ⟨its, rv, pl, hlen⟩ := I.tuple hs
      obtain ⟨⟨cls, dd, data, sls⟩, ho, hc, n, hdt⟩ := pl
      simp only at hc hdt
      subst hc hdt
      obtain ⟨as, h4⟩ := Dp.readsAll I ds _ its ha rv
      have hn : its.length = ds.length := SeqAt.ReadsAll.length ds its as h4
      have hmap : its.map (SeqAt.readOf s.heap) = ds := SeqAt.readsAll_map ds its as hxs h4
      obtain ⟨hjd, _⟩ := List.getElem?_eq_some_iff.mp hz
      have hjl : j < its.length := by omega
      have hj : j < its.toArray.size := by simpa using hjl
      have at_ : ∀ (m : Nat) (hm : m < its.toArray.size) (z' : PyData), ds[m]? = some z' → SeqAt.readOf s.heap its.toArray[m] = z' := by
        intro m hm z' hz'
        have hml : m < its.length := by simpa using hm
        rw [← hmap, List.getElem?_map, List.getElem?_eq_getElem hml] at hz'
        have e1 : SeqAt.readOf s.heap its[m] = z' := Option.some.inj (show some (SeqAt.readOf s.heap its[m]) = some z' from hz')
        simpa using e1
      refine call_meets PySem.F.slot_tuple_index ⟨_, ho, rfl⟩ PySem.F.entry_tuple_index (PySem.F.args_tuple_index_2 _ _)
        (TI.tuple_indexAt a its.toArray n dd sls uy (fun u => PyData.eqv (SeqAt.readOf s.heap u) d) j hj ?_ ?_) ⟨ho, SeqAt.items_eqAt (vs := its.toArray) (show ReadsAll s.heap its.toArray.toList ds as from h4) r1 hxs sd hroom, ?_⟩
      · show PyData.eqv (SeqAt.readOf s.heap its.toArray[j]) d = true
        rw [at_ j hj z hz]
        exact hzj
      · intro m hm hmj
        have hmd : m < ds.length := by omega
        have hz' : ds[m]? = some ds[m] := List.getElem?_eq_getElem hmd
        show PyData.eqv (SeqAt.readOf s.heap its.toArray[m]) d = false
        rw [at_ m hm _ hz']
        exact hno m _ hmj hz'
      · exact ⟨.int (j : Nat), H, I.tok _, ⟨_, rfl⟩, q⟩
end Sk

set_option Elab.async false
set_option linter.all false
set_option maxRecDepth 100000
set_option maxHeartbeats 2000000
namespace Sk
open PySem L2 Evl
theorem kit_ref {K : PySem.W.Frag} {mg : Str → Option Value} {x : Str} {A B : Addr} {b : Bool} (C : ClsAt K mg x B) (h0 : PySem.W.subIn K (.ref A) (.ref A) = some true) (h : PySem.W.subIn K (.ref A) (.ref B) = some b) : PySem.W.kitOne K (.ref A) (.ref B) = some b := by
  unfold PySem.W.kitOne
  by_cases e : (Value.ref A == Value.ref B) = true
  · rw [if_pos e]
    have e' : A = B := Value.ref.inj (beq_iff_eq.mp e)
    subst e'
    rw [h0] at h
    exact h
  · rw [if_neg e]
    obtain ⟨cd, hc, _⟩ := PySem.W.any_some C.e.hd
    have e2 : ((PySem.W.clsIn K B).isSome && PySem.W.typeIn K (.ref B) == some (.type "type")) = true := by rw [hc, C.ty] <;> rfl
    show (if ((PySem.W.clsIn K B).isSome && PySem.W.typeIn K (.ref B) == some (.type "type")) = true then PySem.W.subIn K (.ref A) (.ref B) else none) = some b
    rw [if_pos e2]
    exact h
theorem kit_two {K : PySem.W.Frag} {t c d : Value} (h1 : PySem.W.kitOne K t c = some false) (h2 : PySem.W.kitOne K t d = some false) : PySem.W.kitAny K t [c, d] = some false := by
  unfold PySem.W.kitAny
  rw [h1]
  show PySem.W.kitAny K t [d] = some false
  unfold PySem.W.kitAny
  rw [h2] <;> rfl
end Sk

/-! numbers as trees -/
namespace Sk
inductive T where
  | nil
  | cons (s : Int) (e : T) (r : T)
  deriving DecidableEq, Repr

/-- the signed places of an integer, the least first -/
def naf (n : Int) (p : Nat) : List (Int × Nat) :=
  if h : n = 0 then [] else if h2 : n % 2 = 1 then (2 - n % 4, p) :: naf ((n - (2 - n % 4)) / 2) (p + 1) else naf (n / 2) (p + 1)
termination_by n.natAbs
decreasing_by all_goals omega

theorem naf_zero (p : Nat) : naf 0 p = [] := by rw [naf]; simp
theorem naf_odd {n : Int} (h : n % 2 = 1) (p : Nat) : naf n p = (2 - n % 4, p) :: naf ((n - (2 - n % 4)) / 2) (p + 1) := by
  rw [naf, dif_neg (by omega), dif_pos h]
theorem naf_even {n : Int} (h : n % 2 = 0) (p : Nat) : naf n p = naf (n / 2) (p + 1) := by
  by_cases h0 : n = 0
  · subst h0; rw [naf_zero]; show _ = naf 0 _; rw [naf_zero]
  · rw [naf, dif_neg h0, dif_neg (by omega)]

/-- every place of n lies below: 2 ^ (q - p) ≤ 2 |n| - 1 -/
theorem naf_mem_ge : ∀ (k : Nat) (n : Int), n.natAbs ≤ k → ∀ (p : Nat) (x : Int × Nat), x ∈ naf n p → p ≤ x.2 ∧ 2 ^ (x.2 - p) + 1 ≤ 2 * n.natAbs ∧ (x.1 = 1 ∨ x.1 = -1)
  | 0, n, hk, p, x, hx => by
    have : n = 0 := by omega
    subst this; rw [naf_zero] at hx; cases hx
  | k + 1, n, hk, p, x, hx => by
    by_cases h0 : n = 0
    · subst h0; rw [naf_zero] at hx; cases hx
    rcases Int.emod_two_eq n with h | h
    · rw [naf_even h] at hx
      obtain ⟨h1, h2, h3⟩ := naf_mem_ge k (n / 2) (by omega) (p + 1) x hx
      refine ⟨by omega, ?_, h3⟩
      have e : x.2 - p = (x.2 - (p + 1)) + 1 := by omega
      rw [e, Nat.pow_succ]
      omega
    · rw [naf_odd h] at hx
      rcases List.mem_cons.mp hx with rfl | hx
      · have : n.natAbs ≥ 1 := by omega
        refine ⟨Nat.le_refl _, ?_, by show 2 - n % 4 = 1 ∨ 2 - n % 4 = -1; omega⟩
        show 2 ^ (p - p) + 1 ≤ _
        rw [Nat.sub_self]
        omega
      · by_cases hz : (n - (2 - n % 4)) / 2 = 0
        · rw [hz, naf_zero] at hx; cases hx
        have hev : (n - (2 - n % 4)) / 2 % 2 = 0 := by omega
        rw [naf_even hev] at hx
        obtain ⟨h1, h2, h3⟩ := naf_mem_ge k ((n - (2 - n % 4)) / 2 / 2) (by omega) (p + 1 + 1) x hx
        refine ⟨by omega, ?_, h3⟩
        have e : x.2 - p = (x.2 - (p + 1 + 1)) + 1 + 1 := by omega
        rw [e, Nat.pow_succ, Nat.pow_succ]
        omega
theorem naf_place {n : Int} {x : Int × Nat} (h : x ∈ naf n 0) : 2 ^ x.2 + 1 ≤ 2 * n.natAbs := by
  have := (naf_mem_ge n.natAbs n (Nat.le_refl _) 0 x h).2.1
  simpa using this
theorem naf_sign {n : Int} {x : Int × Nat} (h : x ∈ naf n 0) : x.1 = 1 ∨ x.1 = -1 := (naf_mem_ge n.natAbs n (Nat.le_refl _) 0 x h).2.2
theorem naf_lt {n : Int} {x : Int × Nat} (h : x ∈ naf n 0) : x.2 < n.natAbs := by
  have h1 := naf_place h
  have h2 : x.2 < 2 ^ x.2 := Nat.lt_two_pow_self
  rcases Nat.eq_zero_or_pos x.2 with h3 | h3
  · rw [h3] at h1; simp at h1; omega
  · have h4 : 2 * x.2 ≤ 2 ^ x.2 := by
      have : x.2 = (x.2 - 1) + 1 := by omega
      have h5 : x.2 - 1 < 2 ^ (x.2 - 1) := Nat.lt_two_pow_self
      rw [this, Nat.pow_succ]
      omega
    omega
/-- |n| ≤ 2 ^ m: the places are at most m -/
theorem naf_le {n : Int} {m : Nat} (hn : n.natAbs ≤ 2 ^ m) {x : Int × Nat} (h : x ∈ naf n 0) : x.2 ≤ m := by
  have h1 := naf_place h
  apply Nat.le_of_not_lt
  intro h2
  have h3 : 2 ^ (m + 1) ≤ 2 ^ x.2 := Nat.pow_le_pow_right (by decide) h2
  rw [Nat.pow_succ] at h3
  omega

def ofL : List (Int × T) → T
  | [] => .nil
  | (s, e) :: r => .cons s e (ofL r)
def T.toL : T → List (Int × T)
  | .nil => []
  | .cons s e r => (s, e) :: r.toL
theorem toL_ofL : ∀ l, (ofL l).toL = l
  | [] => rfl
  | (s, e) :: r => by rw [ofL, T.toL, toL_ofL r]
theorem ofL_toL : ∀ t : T, ofL t.toL = t
  | .nil => rfl
  | .cons s e r => by rw [T.toL, ofL, ofL_toL r]

/-- the number for an integer -/
def toT (n : Int) : T := ofL ((naf n 0).reverse.attach.map fun x => (x.1.1, toT (x.1.2 : Int)))
termination_by n.natAbs
decreasing_by
  have h := naf_lt (List.mem_reverse.mp x.2)
  simpa using h
theorem toT_eq (n : Int) : toT n = ofL ((naf n 0).reverse.map fun x => (x.1, toT (x.2 : Int))) := by
  rw [toT]
  congr 1
  exact List.attach_map_val (l := (naf n 0).reverse) (f := fun x : Int × Nat => (x.1, toT (x.2 : Int)))

def T.val : T → Int
  | .nil => 0
  | .cons s e r => s * 2 ^ e.val.toNat + r.val

def sumP : List (Int × Nat) → Int
  | [] => 0
  | (s, p) :: r => s * 2 ^ p + sumP r
theorem sumP_append : ∀ a b, sumP (a ++ b) = sumP a + sumP b
  | [], b => by simp [sumP]
  | (s, p) :: r, b => by rw [List.cons_append, sumP, sumP, sumP_append r b]; omega
theorem sumP_reverse : ∀ a, sumP a.reverse = sumP a
  | [] => rfl
  | (s, p) :: r => by rw [List.reverse_cons, sumP_append, sumP_reverse r, sumP, sumP, sumP]; omega
theorem naf_sum : ∀ (k : Nat) (n : Int), n.natAbs ≤ k → ∀ p, sumP (naf n p) = n * 2 ^ p
  | 0, n, hk, p => by
    have : n = 0 := by omega
    subst this; rw [naf_zero]; simp [sumP]
  | k + 1, n, hk, p => by
    by_cases h0 : n = 0
    · subst h0; rw [naf_zero]; simp [sumP]
    rcases Int.emod_two_eq n with h | h
    · rw [naf_even h, naf_sum k (n / 2) (by omega), Int.pow_succ, Int.mul_comm (2 ^ p) 2, ← Int.mul_assoc]
      congr 1
      omega
    · rw [naf_odd h, sumP]
      have h4 : n % 4 = 1 ∨ n % 4 = 3 := by omega
      have hs : sumP (naf ((n - (2 - n % 4)) / 2) (p + 1)) = ((n - (2 - n % 4)) / 2) * 2 ^ (p + 1) := by
        by_cases hz : (n - (2 - n % 4)) / 2 = 0
        · rw [hz, naf_zero]; simp [sumP]
        · exact naf_sum k _ (by omega) _
      rw [hs, Int.pow_succ, Int.mul_comm (2 ^ p) 2, ← Int.mul_assoc, ← Int.add_mul]
      congr 1
      omega
theorem val_ofL (l : List (Int × T)) : (ofL l).val = (l.map fun x => x.1 * 2 ^ x.2.val.toNat).sum := by
  induction l with
  | nil => rfl
  | cons x r ih => obtain ⟨s, e⟩ := x; rw [ofL, T.val, ih, List.map_cons, List.sum_cons]
theorem toT_val_aux : ∀ (k : Nat) (n : Int), n.natAbs ≤ k → (toT n).val = n
  | 0, n, hk => by
    have : n = 0 := by omega
    subst this; rw [toT_eq, naf_zero]; rfl
  | k + 1, n, hk => by
    rw [toT_eq, val_ofL, List.map_map]
    have h : ∀ l : List (Int × Nat), (∀ x ∈ l, x.2 < n.natAbs) → (l.map ((fun x : Int × T => x.1 * 2 ^ x.2.val.toNat) ∘ fun x : Int × Nat => (x.1, toT (x.2 : Int)))).sum = sumP l := by
      intro l
      induction l with
      | nil => intro _; rfl
      | cons x r ih =>
        intro hl
        obtain ⟨s, p⟩ := x
        rw [List.map_cons, List.sum_cons, ih fun y hy => hl y (List.mem_cons_of_mem _ hy), sumP]
        have hp := hl (s, p) List.mem_cons_self
        show s * 2 ^ (toT (p : Int)).val.toNat + _ = _
        rw [toT_val_aux k (p : Int) (by simp at hp ⊢; omega)]
        rfl
    rw [h _ fun x hx => naf_lt (List.mem_reverse.mp hx), sumP_reverse, naf_sum n.natAbs n (Nat.le_refl _) 0]
    simp
theorem toT_val (n : Int) : (toT n).val = n := toT_val_aux n.natAbs n (Nat.le_refl _)

/-- how many figures: the model's bit_length -/
def bl (n : Nat) : Nat := if n = 0 then 0 else n.log2 + 1
theorem lt_bl (n : Nat) : n < 2 ^ bl n := by
  unfold bl
  split
  · rename_i h; subst h; decide
  · rename_i h; exact Nat.lt_log2_self

/-- value_within -/
def T.within : T → Nat → Option Int
  | .nil, _ => some 0
  | .cons s e r, b => match e.within (bl b) with
    | none => none
    | some p => if p > (b : Int) then none else (r.within b).map (s * 2 ^ p.toNat + ·)
theorem within_val : ∀ (t : T) (b : Nat) (q : Int), t.within b = some q → q = t.val
  | .nil, b, q, h => by injection h with h; exact h.symm
  | .cons s e r, b, q, h => by
    rw [T.within] at h
    cases he : e.within (bl b) with
    | none => rw [he] at h; cases h
    | some p =>
      rw [he] at h
      simp only at h
      split at h
      · cases h
      · cases hr : r.within b with
        | none => rw [hr] at h; cases h
        | some z =>
          rw [hr] at h
          injection h with h
          rw [T.val, ← within_val e _ _ he, ← within_val r _ _ hr]
          exact h.symm
theorem within_ofL (b : Nat) : ∀ l : List (Int × Nat), (∀ x ∈ l, (toT (x.2 : Int)).within (bl b) = some (x.2 : Int) ∧ x.2 ≤ b) →
    (ofL (l.map fun x => (x.1, toT (x.2 : Int)))).within b = some (sumP l)
  | [], _ => rfl
  | (s, p) :: r, h => by
    obtain ⟨h1, h2⟩ := h (s, p) List.mem_cons_self
    rw [List.map_cons, ofL, T.within]
    have h1' : (toT (p : Int)).within (bl b) = some (p : Int) := h1
    rw [h1']
    simp only
    rw [if_neg (by have : p ≤ b := h2; omega), within_ofL b r fun x hx => h x (List.mem_cons_of_mem _ hx)]
    simp [sumP]
theorem within_small : ∀ (k : Nat) (n : Nat), n ≤ k → ∀ b : Nat, n ≤ b → (toT (n : Int)).within (bl b) = some (n : Int)
  | 0, n, hk, b, hb => by
    have : n = 0 := by omega
    subst this; rw [toT_eq]; show (ofL (List.map _ (naf 0 0).reverse)).within _ = _; rw [naf_zero]; rfl
  | k + 1, n, hk, b, hb => by
    rw [toT_eq, within_ofL]
    · rw [sumP_reverse, naf_sum _ _ (Nat.le_refl _)]; simp
    · intro x hx
      have hx := List.mem_reverse.mp hx
      have h1 := naf_lt hx
      have h2 : x.2 ≤ bl b := naf_le (n := (n : Int)) (m := bl b) (by have := lt_bl b; simp; omega) hx
      exact ⟨within_small k x.2 (by simp at h1; omega) (bl b) h2, h2⟩
/-- value_within of an integer's number -/
theorem within_int (n : Int) (b : Nat) : (toT n).within b = if (naf n 0).all (fun x => decide (x.2 ≤ b)) = true then some n else none := by
  split
  · rename_i h
    rw [toT_eq, within_ofL]
    · rw [sumP_reverse, naf_sum _ _ (Nat.le_refl _)]; simp
    · intro x hx
      have hx := List.mem_reverse.mp hx
      have h1 : x.2 ≤ b := of_decide_eq_true (List.all_eq_true.mp h x hx)
      exact ⟨within_small x.2 x.2 (Nat.le_refl _) b h1, h1⟩
  · rename_i h
    have h' : ∃ x ∈ naf n 0, b < x.2 := by
      apply Classical.byContradiction
      intro hn
      apply h
      rw [List.all_eq_true]
      intro x hx
      apply decide_eq_true
      exact Nat.le_of_not_lt fun q => hn ⟨x, hx, q⟩
    obtain ⟨x, hx, hb⟩ := h'
    rw [toT_eq]
    have : ∀ l : List (Int × Nat), x ∈ l → (ofL (l.map fun x => (x.1, toT (x.2 : Int)))).within b = none := by
      intro l
      induction l with
      | nil => intro h; cases h
      | cons y r ih =>
        intro hl
        obtain ⟨s, p⟩ := y
        rw [List.map_cons, ofL, T.within]
        cases he : (toT (p : Int)).within (bl b) with
        | none => rfl
        | some q =>
          have hq := within_val _ _ _ he
          rw [toT_val] at hq
          simp only
          split
          · rfl
          · rename_i hqb
            rcases List.mem_cons.mp hl with hl | hl
            · subst hl; simp at hb; omega
            · rw [ih hl]; rfl
    exact this _ (List.mem_reverse.mpr hx)
/-- a place above b: at least 2 ^ b in size -/
theorem big_of_place {n : Int} {b : Nat} {x : Int × Nat} (hx : x ∈ naf n 0) (hb : b < x.2) : 2 ^ b + 1 ≤ n.natAbs := by
  have h1 := naf_place hx
  have h2 : 2 ^ (b + 1) ≤ 2 ^ x.2 := Nat.pow_le_pow_right (by decide) hb
  rw [Nat.pow_succ] at h2
  omega
def T.size : T → Nat
  | .nil => 1
  | .cons _ e r => e.size + r.size
def T.height : T → Nat
  | .nil => 0
  | .cons _ e r => max (e.height + 1) r.height
def T.fits (t : T) : Prop := t.size ≤ 300 ∧ t.height ≤ 40
def T.sgn : T → Int
  | .nil => 0
  | .cons s _ _ => s
instance (t : T) : Decidable t.fits := by unfold T.fits; exact inferInstance
end Sk

set_option Elab.async false
set_option linter.all false
set_option maxRecDepth 100000
set_option maxHeartbeats 2000000
namespace Sk
open PySem L2 Evl
/-! ### numbers in the heap -/
def T.items : T → List PyData
  | .nil => []
  | .cons s e r => .tuple [.int s, .tuple e.items] :: r.items
def T.data (t : T) : PyData := .tuple t.items
/-- v is the number t -/
def NumV (K : PySem.W.Frag) (H : Hp) (v : V) (t : T) : Prop := Dp K H v t.data
/-- the terms of t -/
def TermsV (K : PySem.W.Frag) (H : Hp) (xs : List V) (t : T) : Prop := DpAll K H xs t.items
section
variable {K : PySem.W.Frag} {H H' : Hp} {v : V} {t : T}
theorem NumV.out (h : NumV K H v t) : ∃ a xs, v = .ref a ∧ SqT K H a xs ∧ TermsV K H xs t := by
  cases h with
  | tup h1 h2 => exact ⟨_, _, rfl, h1, h2⟩
theorem NumV.mk {a : Addr} {xs : List V} (h1 : SqT K H a xs) (h2 : TermsV K H xs t) : NumV K H (.ref a) t := L2.Dp.tup h1 h2
theorem TermsV.nil_out {xs : List V} (h : TermsV K H xs .nil) : xs = [] := by cases h; rfl
theorem TermsV.nil : TermsV K H [] .nil := L2.DpAll.nil
theorem TermsV.cons_out {xs : List V} {s : Int} {e r : T} (h : TermsV K H xs (.cons s e r)) : ∃ p w ys, xs = .ref p :: ys ∧ SqT K H p [.int s, w] ∧ NumV K H w e ∧ TermsV K H ys r := by
  cases h with
  | cons h1 h2 =>
    cases h1 with
    | tup g1 g2 =>
      cases g2 with
      | cons k1 k2 =>
        cases k1
        cases k2 with
        | cons l1 l2 =>
          cases l2
          exact ⟨_, _, _, rfl, g1, l1, h2⟩
theorem TermsV.cons {p : Addr} {w : V} {ys : List V} {s : Int} {e r : T} (h1 : SqT K H p [.int s, w]) (h2 : NumV K H w e) (h3 : TermsV K H ys r) : TermsV K H (.ref p :: ys) (.cons s e r) :=
  L2.DpAll.cons (L2.Dp.tup h1 (L2.DpAll.cons (L2.Dp.int s) (L2.DpAll.cons h2 L2.DpAll.nil))) h3
theorem TermsV.tex : ∀ {t : T} {xs : List V}, TermsV K H xs t → TEx H H' → TermsV K H' xs t
  | .nil, xs, h, _ => by rw [h.nil_out]; exact TermsV.nil
  | .cons s e r, xs, h, k => by
    obtain ⟨p, w, ys, rfl, h1, h2, h3⟩ := h.cons_out
    obtain ⟨a, zs, rfl, g1, g2⟩ := h2.out
    exact TermsV.cons (tex_sqt k h1) (NumV.mk (tex_sqt k g1) (TermsV.tex g2 k)) (TermsV.tex h3 k)
theorem NumV.tex (h : NumV K H v t) (e : TEx H H') : NumV K H' v t := by
  obtain ⟨a, zs, rfl, g1, g2⟩ := h.out
  exact NumV.mk (tex_sqt e g1) (g2.tex e)
theorem NumV.ex (h : NumV K H v t) (e : Ex H H') : NumV K H' v t := h.tex (Ex.t e)
theorem TermsV.ex {xs : List V} (h : TermsV K H xs t) (e : Ex H H') : TermsV K H' xs t := h.tex (Ex.t e)
theorem numT : MonoT (fun v H => NumV K H v t) := fun v H H' e h => NumV.tex h e
theorem TermsV.len : ∀ {t : T} {xs : List V}, TermsV K H xs t → xs.length = t.toL.length
  | .nil, xs, h => by rw [h.nil_out]; rfl
  | .cons s e r, xs, h => by
    obtain ⟨p, w, ys, rfl, _, _, h3⟩ := h.cons_out
    show ys.length + 1 = r.toL.length + 1
    rw [TermsV.len h3]
/-- term by term -/
theorem TermsV.get : ∀ {t : T} {xs : List V} {i : Nat} {x : V}, TermsV K H xs t → xs[i]? = some x → ∃ p s e w, x = .ref p ∧ t.toL[i]? = some (s, e) ∧ SqT K H p [.int s, w] ∧ NumV K H w e
  | .nil, xs, i, x, h, e => by rw [h.nil_out] at e; simp at e
  | .cons s e r, xs, 0, x, h, q => by
    obtain ⟨p, w, ys, rfl, h1, h2, h3⟩ := h.cons_out
    simp at q; subst q
    exact ⟨p, s, e, w, rfl, rfl, h1, h2⟩
  | .cons s e r, xs, i + 1, x, h, q => by
    obtain ⟨p, w, ys, rfl, h1, h2, h3⟩ := h.cons_out
    simp at q
    obtain ⟨p', s', e', w', g1, g2, g3, g4⟩ := TermsV.get h3 q
    exact ⟨p', s', e', w', g1, g2, g3, g4⟩
/-- terms from their parts -/
theorem TermsV.of : ∀ {l : List (Int × T)} {xs : List V}, xs.length = l.length → (∀ (i : Nat) (x : V) (s : Int) (e : T), xs[i]? = some x → l[i]? = some (s, e) → ∃ p w, x = V.ref p ∧ SqT K H p [V.int s, w] ∧ NumV K H w e) → TermsV K H xs (ofL l)
  | [], [], _, _ => L2.DpAll.nil
  | [], _ :: _, h, _ => by simp at h
  | _ :: _, [], h, _ => by simp at h
  | (s, e) :: l, x :: xs, h, k => by
    obtain ⟨p, w, rfl, h1, h2⟩ := k 0 x s e rfl rfl
    exact TermsV.cons h1 h2 (TermsV.of (by simpa using h) fun i x s e h1 h2 => k (i + 1) x s e (by simpa using h1) (by simpa using h2))
end
end Sk

set_option Elab.async false
set_option linter.all false
set_option maxRecDepth 100000
set_option maxHeartbeats 2000000
namespace Sk
open PySem L2 Evl
/-! ### promises: from what is handed to the relation of what comes back; with X: and which error may leave -/
def spF0 (P : Hp → VP → Prop) : Sp := fun vs H Q _ => ∃ R, vs = [] ∧ P H R ∧ ∀ v H', Ex H H' → R v H' → Q v H'
def spF1 (P : V → Hp → VP → Prop) : Sp := fun vs H Q _ => ∃ x R, vs = [x] ∧ P x H R ∧ ∀ v H', Ex H H' → R v H' → Q v H'
def spF2 (P : V → V → Hp → VP → Prop) : Sp := fun vs H Q _ => ∃ x y R, vs = [x, y] ∧ P x y H R ∧ ∀ v H', Ex H H' → R v H' → Q v H'
def spF3 (P : V → V → V → Hp → VP → Prop) : Sp := fun vs H Q _ => ∃ x y z R, vs = [x, y, z] ∧ P x y z H R ∧ ∀ v H', Ex H H' → R v H' → Q v H'
def spF4 (P : V → V → V → V → Hp → VP → Prop) : Sp := fun vs H Q _ => ∃ x y z u R, vs = [x, y, z, u] ∧ P x y z u H R ∧ ∀ v H', Ex H H' → R v H' → Q v H'
abbrev WP := Addr → Prop
def spX1 (K : PySem.W.Frag) (P : V → Hp → VP → WP → Prop) : Sp := fun vs H Q E => ∃ x R W, vs = [x] ∧ P x H R W ∧ (∀ v H', Ex H H' → R v H' → Q v H') ∧ ∀ C H', Ex H H' → W C → ∀ d, ErrAt K C d H' → E (.ref C) (some d) H'
def spX2 (K : PySem.W.Frag) (P : V → V → Hp → VP → WP → Prop) : Sp := fun vs H Q E => ∃ x y R W, vs = [x, y] ∧ P x y H R W ∧ (∀ v H', Ex H H' → R v H' → Q v H') ∧ ∀ C H', Ex H H' → W C → ∀ d, ErrAt K C d H' → E (.ref C) (some d) H'
def spX3 (K : PySem.W.Frag) (P : V → V → V → Hp → VP → WP → Prop) : Sp := fun vs H Q E => ∃ x y z R W, vs = [x, y, z] ∧ P x y z H R W ∧ (∀ v H', Ex H H' → R v H' → Q v H') ∧ ∀ C H', Ex H H' → W C → ∀ d, ErrAt K C d H' → E (.ref C) (some d) H'
section
variable {K : PySem.W.Frag} {vs : List V} {H : Hp} {Q : VK} {E : XK} {R : VP} {W : WP} {x y z u : V}
theorem spF1.len {P} (h : spF1 P vs H Q E) : vs.length = 1 := by obtain ⟨x, R, rfl, _⟩ := h; rfl
theorem spF2.len {P} (h : spF2 P vs H Q E) : vs.length = 2 := by obtain ⟨x, y, R, rfl, _⟩ := h; rfl
theorem spF3.len {P} (h : spF3 P vs H Q E) : vs.length = 3 := by obtain ⟨x, y, z, R, rfl, _⟩ := h; rfl
theorem spF4.len {P} (h : spF4 P vs H Q E) : vs.length = 4 := by obtain ⟨x, y, z, u, R, rfl, _⟩ := h; rfl
theorem spX1.len {P} (h : spX1 K P vs H Q E) : vs.length = 1 := by obtain ⟨x, R, W, rfl, _⟩ := h; rfl
theorem spX2.len {P} (h : spX2 K P vs H Q E) : vs.length = 2 := by obtain ⟨x, y, R, W, rfl, _⟩ := h; rfl
theorem spX3.len {P} (h : spX3 K P vs H Q E) : vs.length = 3 := by obtain ⟨x, y, z, R, W, rfl, _⟩ := h; rfl
theorem sr1 {P} (h : P x H R) : SR (spF1 P) [x] H R := fun Q E q => ⟨x, R, rfl, h, q⟩
theorem sr2 {P} (h : P x y H R) : SR (spF2 P) [x, y] H R := fun Q E q => ⟨x, y, R, rfl, h, q⟩
theorem sr3 {P} (h : P x y z H R) : SR (spF3 P) [x, y, z] H R := fun Q E q => ⟨x, y, z, R, rfl, h, q⟩
theorem sr4 {P} (h : P x y z u H R) : SR (spF4 P) [x, y, z, u] H R := fun Q E q => ⟨x, y, z, u, R, rfl, h, q⟩
/-- a call that may raise, where nothing is raised -/
theorem srx1 {P} (h : P x H R fun _ => False) : SR (spX1 K P) [x] H R := fun Q E q => ⟨x, R, _, rfl, h, q, fun _ _ _ z => z.elim⟩
theorem srx2 {P} (h : P x y H R fun _ => False) : SR (spX2 K P) [x, y] H R := fun Q E q => ⟨x, y, R, _, rfl, h, q, fun _ _ _ z => z.elim⟩
theorem srx3 {P} (h : P x y z H R fun _ => False) : SR (spX3 K P) [x, y, z] H R := fun Q E q => ⟨x, y, z, R, _, rfl, h, q, fun _ _ _ z => z.elim⟩
end
/-! ### calls of one, two, three arguments by their values -/
section
variable {K : PySem.W.Frag} {σ : L2.St} {H : Hp} {te tf tg : TE} {R R1 R2 R3 : VP} {E : XK} {D : Ends} {tz tu : TS} {t : TT} {i : Nat}
theorem er_call1 {P} (h : ER te σ H R1) (m : Mono R1) (k : ∀ v H1, Ex H H1 → R1 v H1 → P v H1 R) : ER (tCall (spF1 P) [] E (tCons te tNil)) σ H R :=
  er_call (ea_one h m) fun vs H1 e ⟨v, hv, r⟩ => by rw [hv]; exact sr1 (k v H1 e r)
theorem er_call2 {P} (h : ER te σ H R1) (m : Mono R1) (h' : ER tf σ H R2) (m' : Mono R2) (k : ∀ v w H1, Ex H H1 → R1 v H1 → R2 w H1 → P v w H1 R) : ER (tCall (spF2 P) [] E (tCons te (tCons tf tNil))) σ H R :=
  er_call (ea_two h m h' m') fun vs H1 e ⟨v, w, hv, r, r'⟩ => by rw [hv]; exact sr2 (k v w H1 e r r')
theorem er_call3 {P} (h : ER te σ H R1) (m : Mono R1) (h' : ER tf σ H R2) (m' : Mono R2) (h'' : ER tg σ H R3) (m'' : Mono R3) (k : ∀ v w z H1, Ex H H1 → R1 v H1 → R2 w H1 → R3 z H1 → P v w z H1 R) : ER (tCall (spF3 P) [] E (tCons te (tCons tf (tCons tg tNil)))) σ H R :=
  er_call (ea_three h m h' m' h'' m'') fun vs H1 e ⟨v, w, z, hv, r, r', r''⟩ => by rw [hv]; exact sr3 (k v w z H1 e r r' r'')
/-- a call that may raise -/
theorem x_call1 {P : V → Hp → VP → WP → Prop} (h : ER te σ H R1) (m : Mono R1) (Q : VK) (k : ∀ v H1, Ex H H1 → R1 v H1 → ∃ R W, P v H1 R W ∧ (∀ w H2, Ex H1 H2 → R w H2 → Q w H2) ∧ ∀ C H2, Ex H1 H2 → W C → ∀ d, ErrAt K C d H2 → E (.ref C) (some d) H2) : tCall (spX1 K P) [] E (tCons te tNil) σ H Q :=
  ea_one h m H (Ex.refl H) _ fun vs H1 e ⟨v, hv, r⟩ => by
    subst hv
    obtain ⟨R, W, h1, h2, h3⟩ := k v H1 e r
    exact ⟨v, R, W, rfl, h1, h2, h3⟩
theorem x_call2 {P : V → V → Hp → VP → WP → Prop} (h : ER te σ H R1) (m : Mono R1) (h' : ER tf σ H R2) (m' : Mono R2) (Q : VK) (k : ∀ v v' H1, Ex H H1 → R1 v H1 → R2 v' H1 → ∃ R W, P v v' H1 R W ∧ (∀ w H2, Ex H1 H2 → R w H2 → Q w H2) ∧ ∀ C H2, Ex H1 H2 → W C → ∀ d, ErrAt K C d H2 → E (.ref C) (some d) H2) : tCall (spX2 K P) [] E (tCons te (tCons tf tNil)) σ H Q :=
  ea_two h m h' m' H (Ex.refl H) _ fun vs H1 e ⟨v, v', hv, r, r'⟩ => by
    subst hv
    obtain ⟨R, W, h1, h2, h3⟩ := k v v' H1 e r r'
    exact ⟨v, v', R, W, rfl, h1, h2, h3⟩
/-- the same in a try (the wish is told by the slots) -/
theorem xs_call1 {P : V → Hp → VP → WP → Prop} {ES : L2.St → XK} (h : ER te σ H R1) (m : Mono R1) (Q : VK) (k : ∀ v H1, Ex H H1 → R1 v H1 → ∃ R W, P v H1 R W ∧ (∀ w H2, Ex H1 H2 → R w H2 → Q w H2) ∧ ∀ C H2, Ex H1 H2 → W C → ∀ d, ErrAt K C d H2 → ES σ (.ref C) (some d) H2) : tCallS (spX1 K P) ES (tCons te tNil) σ H Q :=
  ea_one h m H (Ex.refl H) _ fun vs H1 e ⟨v, hv, r⟩ => by
    subst hv
    obtain ⟨R, W, h1, h2, h3⟩ := k v H1 e r
    exact ⟨v, R, W, rfl, h1, h2, h3⟩
theorem xs_call2 {P : V → V → Hp → VP → WP → Prop} {ES : L2.St → XK} (h : ER te σ H R1) (m : Mono R1) (h' : ER tf σ H R2) (m' : Mono R2) (Q : VK) (k : ∀ v v' H1, Ex H H1 → R1 v H1 → R2 v' H1 → ∃ R W, P v v' H1 R W ∧ (∀ w H2, Ex H1 H2 → R w H2 → Q w H2) ∧ ∀ C H2, Ex H1 H2 → W C → ∀ d, ErrAt K C d H2 → ES σ (.ref C) (some d) H2) : tCallS (spX2 K P) ES (tCons te (tCons tf tNil)) σ H Q :=
  ea_two h m h' m' H (Ex.refl H) _ fun vs H1 e ⟨v, v', hv, r, r'⟩ => by
    subst hv
    obtain ⟨R, W, h1, h2, h3⟩ := k v v' H1 e r r'
    exact ⟨v, v', R, W, rfl, h1, h2, h3⟩
theorem monoC {P : V → Prop} : Mono (fun v _ => P v) := fun _ _ _ _ h => h
theorem monoTC {P : V → Prop} : MonoT (fun v _ => P v) := fun _ _ _ _ h => h
theorem monoTrue : Mono (fun _ _ => True) := fun _ _ _ _ h => h
/-- while: a word that falls -/
theorem q_while' (W : Nat → L2.St → Hp → Prop) (m0 : Nat) (h0 : W m0 σ H)
    (hs : ∀ m σ' H', W m σ' H' → ∃ b, EvT t σ' H' b ∧ (b = true → ∀ H1, Ex H' H1 → tu { D with nx := fun σ2 H2 => ∃ m', m' < m ∧ W m' σ2 H2, ct := fun σ2 H2 => ∃ m', m' < m ∧ W m' σ2 H2, bk := tz D } σ' H1) ∧ (b = false → ∀ H1, Ex H' H1 → tz D σ' H1)) : tSeq (tWhile t tu) tz D σ H :=
  q_while W m0 h0 fun m σ' H' w => by
    obtain ⟨b, h1, h2, h3⟩ := hs m σ' H' w
    exact ⟨b, h1, fun hb H1 e => ⟨fun σ2 H2 => ∃ m', m' < m ∧ W m' σ2 H2, fun _ _ z => z, h2 hb H1 e⟩, h3⟩
end
/-! ### loops' steps -/
theorem nil_of_lst {H : Hp} {p : Addr} : ∀ b o, upd H p o b = upd H p o b := fun _ _ => rfl
end Sk
namespace Sk
open PySem L2 Evl
/-! ### lists whose items stand for the items of a list -/
def ItemsR {α : Type} (R : α → VP) (l : List α) (ys : List V) (H : Hp) : Prop := ys.length = l.length ∧ ∀ (i : Nat) (y : V) (a : α), ys[i]? = some y → l[i]? = some a → R a y H
section
variable {α : Type} {R R' : α → VP} {l l' : List α} {ys zs : List V} {H H' : Hp}
theorem ItemsR.nil : ItemsR R [] [] H := ⟨rfl, fun i y a h => by simp at h⟩
theorem ItemsR.tex (m : ∀ a, MonoT (R a)) (h : ItemsR R l ys H) (e : TEx H H') : ItemsR R l ys H' := ⟨h.1, fun i y a h1 h2 => m a y H H' e (h.2 i y a h1 h2)⟩
theorem ItemsR.ex (m : ∀ a, Mono (R a)) (h : ItemsR R l ys H) (e : Ex H H') : ItemsR R l ys H' := ⟨h.1, fun i y a h1 h2 => m a y H H' e (h.2 i y a h1 h2)⟩
theorem ItemsR.snoc {a : α} {y : V} (h : ItemsR R l ys H) (hy : R a y H) : ItemsR R (l ++ [a]) (ys ++ [y]) H := by
  refine ⟨by rw [List.length_append, List.length_append, h.1]; rfl, fun i z b h1 h2 => ?_⟩
  rcases Nat.lt_or_ge i ys.length with hi | hi
  · rw [List.getElem?_append_left hi] at h1
    rw [List.getElem?_append_left (by rw [← h.1]; exact hi)] at h2
    exact h.2 i z b h1 h2
  · rw [List.getElem?_append_right hi] at h1
    rw [List.getElem?_append_right (by rw [← h.1]; exact hi), ← h.1] at h2
    cases hq : i - ys.length with
    | zero => rw [hq] at h1 h2; cases h1; cases h2; exact hy
    | succ n => rw [hq] at h1; cases h1
theorem ItemsR.rev (h : ItemsR R l ys H) : ItemsR R l.reverse ys.reverse H := by
  refine ⟨by rw [List.length_reverse, List.length_reverse, h.1], fun i z b h1 h2 => ?_⟩
  have hi : i < ys.reverse.length := (List.getElem?_eq_some_iff.mp h1).1
  rw [List.length_reverse] at hi
  rw [List.getElem?_reverse hi] at h1
  rw [List.getElem?_reverse (by rw [← h.1]; exact hi), ← h.1] at h2
  exact h.2 _ z b h1 h2
theorem ItemsR.imp (h : ItemsR R l ys H) (k : ∀ a y, a ∈ l → R a y H → R' a y H) : ItemsR R' l ys H := ⟨h.1, fun i y a h1 h2 => k a y (List.mem_of_getElem? h2) (h.2 i y a h1 h2)⟩
theorem ItemsR.at {i : Nat} {a : α} (h : ItemsR R l ys H) (ha : l[i]? = some a) : ∃ y, ys[i]? = some y ∧ R a y H := by
  have hi : i < l.length := (List.getElem?_eq_some_iff.mp ha).1
  have hi2 : i < ys.length := by rw [h.1]; exact hi
  have hy : ys[i]? = some ys[i] := List.getElem?_eq_getElem hi2
  exact ⟨_, hy, h.2 i _ a hy ha⟩
theorem ItemsR.of_at {i : Nat} {y : V} (h : ItemsR R l ys H) (hy : ys[i]? = some y) : ∃ a, l[i]? = some a ∧ R a y H := by
  have hi : i < ys.length := (List.getElem?_eq_some_iff.mp hy).1
  have hi2 : i < l.length := by rw [← h.1]; exact hi
  have ha : l[i]? = some l[i] := List.getElem?_eq_getElem hi2
  exact ⟨_, ha, h.2 i y _ hy ha⟩
end
/-- ints -/
def IntI (n : Int) : VP := fun v _ => v = .int n
theorem ItemsR.ints {l : List Int} {ys : List V} {H : Hp} (h : ItemsR IntI l ys H) : ys = l.map V.int := by
  apply List.ext_getElem?
  intro i
  rw [List.getElem?_map]
  cases hy : ys[i]? with
  | none =>
    have : l[i]? = none := List.getElem?_eq_none (by rw [← h.1]; exact List.getElem?_eq_none_iff.mp hy)
    rw [this]; rfl
  | some y =>
    obtain ⟨a, ha, e⟩ := h.of_at hy
    rw [ha, Option.map_some, e]
/-- a pair of ints, as a tuple -/
def PairI (x : Int × Nat) : VP := fun v H => ∃ q, v = .ref q ∧ H q = some (.tup [.int x.1, .int (x.2 : Int)])
theorem pairI (x : Int × Nat) : MonoT (PairI x) := fun v H H' e ⟨q, h1, h2⟩ => ⟨q, h1, e q _ h2 True.intro⟩
/-- a list of them -/
def ListR {α : Type} (R : α → VP) (l : List α) : VP := fun v H => ∃ p ys, v = .ref p ∧ H p = some (.lst ys) ∧ ItemsR R l ys H
section
variable {H : Hp}
theorem ItemsR.set {α : Type} {R : α → VP} {l : List α} {ys : List V} {i : Nat} {a : α} {y : V} (h : ItemsR R l ys H) (hy : R a y H) : ItemsR R (l.set i a) (ys.set i y) H := by
  refine ⟨by rw [List.length_set, List.length_set, h.1], fun j z b h1 h2 => ?_⟩
  by_cases e : i = j
  · subst e
    have hlt : i < ys.length := by
      have := (List.getElem?_eq_some_iff.mp h1).1
      rw [List.length_set] at this; exact this
    rw [List.getElem?_set_self hlt] at h1
    rw [List.getElem?_set_self (by rw [← h.1]; exact hlt)] at h2
    cases h1; cases h2; exact hy
  · rw [List.getElem?_set_ne e] at h1 h2
    exact h.2 j z b h1 h2
theorem ItemsR.append {α : Type} {R : α → VP} {l l' : List α} {ys zs : List V} (h : ItemsR R l ys H) (h' : ItemsR R l' zs H) : ItemsR R (l ++ l') (ys ++ zs) H := by
  refine ⟨by rw [List.length_append, List.length_append, h.1, h'.1], fun i z b h1 h2 => ?_⟩
  rcases Nat.lt_or_ge i ys.length with hi | hi
  · rw [List.getElem?_append_left hi] at h1
    rw [List.getElem?_append_left (by rw [← h.1]; exact hi)] at h2
    exact h.2 i z b h1 h2
  · rw [List.getElem?_append_right hi] at h1
    rw [List.getElem?_append_right (by rw [← h.1]; exact hi), ← h.1] at h2
    exact h'.2 _ z b h1 h2
theorem ItemsR.take {α : Type} {R : α → VP} {l : List α} {ys : List V} (n : Nat) (h : ItemsR R l ys H) : ItemsR R (l.take n) (ys.take n) H := by
  refine ⟨by rw [List.length_take, List.length_take, h.1], fun i z b h1 h2 => ?_⟩
  rw [List.getElem?_take] at h1 h2
  split at h1
  · rename_i q
    rw [if_pos q] at h2
    exact h.2 i z b h1 h2
  · cases h1
theorem ItemsR.drop {α : Type} {R : α → VP} {l : List α} {ys : List V} (n : Nat) (h : ItemsR R l ys H) : ItemsR R (l.drop n) (ys.drop n) H := by
  refine ⟨by rw [List.length_drop, List.length_drop, h.1], fun i z b h1 h2 => ?_⟩
  rw [List.getElem?_drop] at h1 h2
  exact h.2 _ z b h1 h2
theorem ItemsR.ins {α : Type} {R : α → VP} {l : List α} {ys : List V} {a : α} {y : V} (n : Nat) (h : ItemsR R l ys H) (hy : R a y H) : ItemsR R (l.take n ++ [a] ++ l.drop n) (ys.take n ++ [y] ++ ys.drop n) H :=
  ((h.take n).append (ItemsR.snoc (l := []) .nil hy)).append (h.drop n)
end
end Sk

set_option Elab.async false
set_option linter.all false
set_option maxRecDepth 100000
set_option maxHeartbeats 2000000
namespace Sk
open PySem L2 Evl
/-! ### the form of numbers: each exponent by two or more above the next -/
def T.lead : T → Int
  | .nil => -2
  | .cons _ e _ => e.val
def T.can : T → Prop
  | .nil => True
  | .cons s e r => ((s = 1 ∨ s = -1) ∧ 0 ≤ e.val ∧ r.lead + 2 ≤ e.val) ∧ e.can ∧ r.can
/-- the bounds of a number by its first exponent -/
theorem can_bounds : ∀ {t : T}, t.can → (3 * t.val ≤ 2 ^ (t.lead + 2).toNat - 1 ∧ -(2 ^ (t.lead + 2).toNat - 1) ≤ 3 * t.val) ∧
    ∀ s e r, t = .cons s e r → 2 ^ (e.val.toNat + 1) + 1 ≤ 3 * (s * t.val)
  | .nil, _ => ⟨⟨by decide, by decide⟩, fun s e r h => by cases h⟩
  | .cons s e r, ⟨⟨hs, he, hl⟩, _, hr⟩ => by
    obtain ⟨⟨b1, b2⟩, _⟩ := can_bounds hr
    have hp : (2 : Int) ^ (r.lead + 2).toNat ≤ 2 ^ e.val.toNat := by
      have h : (2 : Nat) ^ (r.lead + 2).toNat ≤ 2 ^ e.val.toNat := Nat.pow_le_pow_right (by decide) (by omega)
      exact_mod_cast h
    have e2 : (e.val + 2).toNat = e.val.toNat + 2 := by omega
    have p2 : (2 : Int) ^ (e.val.toNat + 2) = 4 * 2 ^ e.val.toNat := by rw [Int.pow_add]; omega
    have p1 : (2 : Int) ^ (e.val.toNat + 1) = 2 * 2 ^ e.val.toNat := by rw [Int.pow_add]; omega
    have hv : (T.cons s e r).val = s * 2 ^ e.val.toNat + r.val := rfl
    have hlead : (T.cons s e r).lead = e.val := rfl
    refine ⟨?_, fun s' e' r' h => ?_⟩
    · rw [hlead, e2, p2, hv]
      generalize (2 : Int) ^ e.val.toNat = P at *
      rcases hs with rfl | rfl <;> omega
    · cases h
      rw [p1, hv]
      generalize (2 : Int) ^ e.val.toNat = P at *
      rcases hs with rfl | rfl <;> omega
theorem can_pos {s : Int} {e r : T} (h : (T.cons s e r).can) : 0 < s * (T.cons s e r).val := by
  have h1 := (can_bounds h).2 s e r rfl
  have h2 : (0 : Int) < 2 ^ (e.val.toNat + 1) := Int.pow_pos (by decide)
  omega
theorem can_sgn : ∀ {t : T}, t.can → (t.sgn = 0 ∧ t.val = 0) ∨ (t.sgn = 1 ∧ 0 < t.val) ∨ (t.sgn = -1 ∧ t.val < 0)
  | .nil, _ => .inl ⟨rfl, rfl⟩
  | .cons s e r, h => by
    have hp := can_pos h
    rcases h.1.1 with rfl | rfl
    · exact .inr (.inl ⟨rfl, by omega⟩)
    · exact .inr (.inr ⟨rfl, by omega⟩)
theorem can_big {s : Int} {e r : T} (h : (T.cons s e r).can) : 2 ^ e.val.toNat < 2 * (T.cons s e r).val.natAbs ∧ 2 * r.val.natAbs < 2 ^ e.val.toNat := by
  have h1 := (can_bounds h).2 s e r rfl
  obtain ⟨⟨b1, b2⟩, _⟩ := can_bounds h.2.2
  have hl := h.1.2.2
  have he := h.1.2.1
  have hp : (2 : Int) ^ (r.lead + 2).toNat ≤ 2 ^ e.val.toNat := by
    have h : (2 : Nat) ^ (r.lead + 2).toNat ≤ 2 ^ e.val.toNat := Nat.pow_le_pow_right (by decide) (by omega)
    exact_mod_cast h
  have p1 : (2 : Int) ^ (e.val.toNat + 1) = 2 * 2 ^ e.val.toNat := by rw [Int.pow_add]; omega
  rw [p1] at h1
  have c : ((2 ^ e.val.toNat : Nat) : Int) = (2 : Int) ^ e.val.toNat := by norm_cast
  rcases h.1.1 with rfl | rfl
  · constructor <;> omega
  · constructor <;> omega
theorem pow_bl_gt (b : Nat) : b < 2 ^ bl b := lt_bl b
theorem can_none : ∀ {t : T} {b : Nat}, t.can → t.within b = none → 2 ^ b < t.val.natAbs
  | .nil, b, _, h => by cases h
  | .cons s e r, b, hc, h => by
    obtain ⟨g1, g2⟩ := can_big hc
    have he := hc.1.2.1
    have fin : b + 1 ≤ e.val.toNat → 2 ^ b < (T.cons s e r).val.natAbs := fun h1 => by
      have h2 : 2 ^ (b + 1) ≤ 2 ^ e.val.toNat := Nat.pow_le_pow_right (by decide) h1
      rw [Nat.pow_succ] at h2
      omega
    rw [T.within] at h
    cases hq : e.within (bl b) with
    | none =>
      have ih := can_none hc.2.1 hq
      have h3 := lt_bl b
      exact fin (by omega)
    | some q =>
      rw [hq] at h
      simp only at h
      have hqv := within_val _ _ _ hq
      split at h
      · rename_i hb
        exact fin (by omega)
      · cases hr : r.within b with
        | none =>
          have ih := can_none hc.2.2 hr
          omega
        | some z => rw [hr] at h; cases h
/-- from the list of the terms -/
theorem can_ofL : ∀ {l : List (Int × T)}, (∀ x ∈ l, (x.1 = 1 ∨ x.1 = -1) ∧ 0 ≤ x.2.val ∧ x.2.can) → l.Pairwise (fun x y => y.2.val + 2 ≤ x.2.val) → (ofL l).can
  | [], _, _ => True.intro
  | (s, e) :: r, h, hp => by
    have h0 := h (s, e) List.mem_cons_self
    have hp' := List.pairwise_cons.mp hp
    refine ⟨⟨h0.1, h0.2.1, ?_⟩, h0.2.2, can_ofL (fun x hx => h x (List.mem_cons_of_mem _ hx)) hp'.2⟩
    cases r with
    | nil => have := h0.2.1; show -2 + 2 ≤ e.val; exact this
    | cons y r => exact hp'.1 y List.mem_cons_self
theorem naf_gap : ∀ (k : Nat) (n : Int), n.natAbs ≤ k → ∀ p, (naf n p).Pairwise (fun x y => x.2 + 2 ≤ y.2)
  | 0, n, hk, p => by
    have : n = 0 := by omega
    subst this; rw [naf_zero]; exact List.Pairwise.nil
  | k + 1, n, hk, p => by
    by_cases h0 : n = 0
    · subst h0; rw [naf_zero]; exact List.Pairwise.nil
    rcases Int.emod_two_eq n with h | h
    · rw [naf_even h]
      exact naf_gap k _ (by omega) _
    · rw [naf_odd h]
      refine List.pairwise_cons.mpr ⟨fun y hy => ?_, ?_⟩
      · have hev : (n - (2 - n % 4)) / 2 % 2 = 0 := by omega
        rw [naf_even hev] at hy
        exact (naf_mem_ge _ _ (Nat.le_refl _) (p + 1 + 1) y hy).1
      · by_cases hz : (n - (2 - n % 4)) / 2 = 0
        · rw [hz, naf_zero]; exact List.Pairwise.nil
        · exact naf_gap k _ (by omega) _
theorem toT_can_aux : ∀ (k : Nat) (n : Int), n.natAbs ≤ k → (toT n).can
  | k, n, hk => by
    rw [toT_eq]
    refine can_ofL (fun x hx => ?_) ?_
    · obtain ⟨y, hy, rfl⟩ := List.mem_map.mp hx
      have hy := List.mem_reverse.mp hy
      have hlt := naf_lt hy
      refine ⟨naf_sign hy, by show 0 ≤ (toT (y.2 : Int)).val; rw [toT_val]; omega, ?_⟩
      cases k with
      | zero => omega
      | succ k => exact toT_can_aux k _ (by simp; omega)
    · rw [List.pairwise_map, List.pairwise_reverse]
      refine (naf_gap _ n (Nat.le_refl _) 0).imp fun {x y} h => ?_
      show (toT (x.2 : Int)).val + 2 ≤ (toT (y.2 : Int)).val
      rw [toT_val, toT_val]
      omega
theorem toT_can (n : Int) : (toT n).can := toT_can_aux _ n (Nat.le_refl _)
theorem pow_leI {a b : Nat} (h : a ≤ b) : (2 : Int) ^ a ≤ 2 ^ b := by
  have : (2 : Nat) ^ a ≤ 2 ^ b := Nat.pow_le_pow_right (by decide) h
  exact_mod_cast this
/-- the first exponent tells how great a number is -/
theorem lead_lt {s s' : Int} {e e' r r' : T} (h : (T.cons s e r).can) (h' : (T.cons s' e' r').can) (hl : e.val < e'.val) : s * (T.cons s e r).val < s' * (T.cons s' e' r').val ∧ -(s * (T.cons s e r).val) < s' * (T.cons s' e' r').val := by
  obtain ⟨⟨b1, b2⟩, b3⟩ := can_bounds h
  have c3 := (can_bounds h').2 s' e' r' rfl
  have he := h.1.2.1
  have hlead : (T.cons s e r).lead = e.val := rfl
  rw [hlead] at b1 b2
  have hp : (2 : Int) ^ (e.val + 2).toNat ≤ 2 ^ (e'.val.toNat + 1) := pow_leI (by omega)
  have hpos := can_pos h
  generalize (T.cons s e r).val = x at *
  generalize (T.cons s' e' r').val = y at *
  rcases h.1.1 with rfl | rfl
  · constructor <;> omega
  · constructor <;> omega
theorem can_uniq : ∀ {t u : T}, t.can → u.can → t.val = u.val → t = u
  | .nil, .nil, _, _, _ => rfl
  | .nil, .cons s e r, _, h, hv => by
    have := can_pos h
    rw [← hv] at this
    simp [T.val] at this
  | .cons s e r, .nil, h, _, hv => by
    have := can_pos h
    rw [hv] at this
    simp [T.val] at this
  | .cons s e r, .cons s' e' r', h, h', hv => by
    have p1 := can_pos h
    have p2 := can_pos h'
    have hs : s = s' := by
      rw [hv] at p1
      generalize (T.cons s' e' r').val = y at *
      rcases h.1.1 with rfl | rfl <;> rcases h'.1.1 with rfl | rfl <;> omega
    subst hs
    have hev : e.val = e'.val := by
      rcases Int.lt_trichotomy e.val e'.val with q | q | q
      · have := (lead_lt h h' q).1
        rw [hv] at this; omega
      · exact q
      · have := (lead_lt h' h q).1
        rw [hv] at this; omega
    have he := can_uniq h.2.1 h'.2.1 hev
    subst he
    have hr : r.val = r'.val := by
      have h1 : s * 2 ^ e.val.toNat + r.val = s * 2 ^ e.val.toNat + r'.val := hv
      omega
    rw [can_uniq h.2.2 h'.2.2 hr]
theorem can_eq {t : T} (h : t.can) : t = toT t.val := can_uniq h (toT_can _) (toT_val _).symm
end Sk

set_option Elab.async false
set_option linter.all false
set_option maxRecDepth 100000
set_option maxHeartbeats 2000000
namespace Sk
open PySem L2 Evl
/-! ### written tuples of the module, read as data -/
def kall (f : Value → Option PyData) : List Value → Option (List PyData)
  | [] => some []
  | v :: r => match f v, kall f r with
    | some d, some ds => some (d :: ds)
    | _, _ => none
def kdat (K : PySem.W.Frag) : Nat → Value → Option PyData
  | 0, _ => none
  | n + 1, .int i _ => some (.int i)
  | n + 1, .str x _ => some (.str x)
  | n + 1, .ref a => match K.lookup a with
    | some ⟨.type "tuple", none, .seq its _, _⟩ => if its.size ≤ 1000 then (kall (kdat K n) its.toList).map PyData.tuple else none
    | _ => none
  | _, _ => none
theorem kall_dp {K : PySem.W.Frag} {f : Value → Option PyData} (hf : ∀ v d, f v = some d → ∃ x, RelV x v ∧ ∀ H, Dp K H x d) : ∀ (vs : List Value) (ds : List PyData), kall f vs = some ds → ∃ xs, Vals xs vs ∧ ∀ H, DpAll K H xs ds
  | [], ds, h => by cases h; exact ⟨[], .nil, fun H => .nil⟩
  | v :: r, ds, h => by
    unfold kall at h
    split at h
    · rename_i d ds' h1 h2
      cases h
      obtain ⟨x, r1, d1⟩ := hf v d h1
      obtain ⟨xs, r2, d2⟩ := kall_dp hf r ds' h2
      exact ⟨x :: xs, .cons r1 r2, fun H => .cons (d1 H) (d2 H)⟩
    · cases h
theorem kdat_dp {K : PySem.W.Frag} : ∀ (n : Nat) (v : Value) (d : PyData), kdat K n v = some d → ∃ x, RelV x v ∧ ∀ H, Dp K H x d
  | 0, v, d, h => by cases h
  | n + 1, v, d, h => by
    unfold kdat at h
    split at h
    · cases h
    · cases h; exact ⟨.int _, ⟨_, rfl⟩, fun H => .int _⟩
    · cases h; exact ⟨.str _, ⟨_, rfl⟩, fun H => .str _⟩
    · rename_i n' a hn
      cases hn
      split at h
      · rename_i its z sl hk
        split at h
        · rename_i hz
          cases hq : kall (kdat K n) its.toList with
          | none => rw [hq] at h; cases h
          | some ds =>
            rw [hq] at h
            cases h
            obtain ⟨xs, r2, d2⟩ := kall_dp (kdat_dp n) _ _ hq
            exact ⟨.ref a, rfl, fun H => .tup (.inr ⟨_, its, z, hk, rfl, rfl, Nat.le_trans hz (by decide), r2⟩) (d2 H)⟩
        · cases h
      · cases h
    · cases h
theorem kdat_ref {K : PySem.W.Frag} {n : Nat} {a : Addr} {d : PyData} (h : kdat K n (.ref a) = some d) : ∀ H, Dp K H (.ref a) d := by
  obtain ⟨x, r, k⟩ := kdat_dp n _ d h
  cases x <;> first | (cases r; done) | (obtain ⟨_, r⟩ := r; cases r) | skip
  rename_i b
  cases r
  exact k
/-! ### numbers as data -/
theorem items_lay : ∀ t : T, PyData.canLayAll0 t.items = true
  | .nil => rfl
  | .cons s e r => by
    rw [T.items]
    simp [PyData.canLay0, PyData.canLayAll0, items_lay e, items_lay r]
theorem items_depth : ∀ t : T, PyData.depthAll t.items ≤ 2 * t.height + 1
  | .nil => by simp [T.items, PyData.depthAll]
  | .cons s e r => by
    have h1 := items_depth e
    have h2 := items_depth r
    have e1 : (T.cons s e r).height = max (e.height + 1) r.height := rfl
    rw [T.items]
    simp [PyData.depthAll, PyData.depth]
    omega
theorem items_eqv : ∀ t u : T, PyData.eqvAll t.items u.items = decide (t = u)
  | .nil, .nil => by rw [T.items, PyData.eqvAll]; rfl
  | .nil, .cons s e r => by rw [T.items, T.items, PyData.eqvAll]; exact (decide_eq_false (fun q => by cases q)).symm
  | .cons s e r, .nil => by rw [T.items, T.items, PyData.eqvAll]; exact (decide_eq_false (fun q => by cases q)).symm
  | .cons s e r, .cons s' e' r' => by
    rw [T.items, T.items, PyData.eqvAll, PyData.eqv, PyData.eqvAll, PyData.eqv, PyData.eqvAll, PyData.eqv, PyData.eqvAll, items_eqv e e', items_eqv r r', Bool.eq_iff_iff]
    simp
    constructor
    · rintro ⟨⟨h1, h2⟩, h3⟩; exact ⟨h1, h2, h3⟩
    · rintro ⟨h1, h2, h3⟩; exact ⟨⟨h1, h2⟩, h3⟩
theorem data_lay (t : T) : t.data.canLay0 = true := by
  unfold T.data
  rw [PyData.canLay0]; exact items_lay t
theorem data_depth (t : T) : t.data.depth ≤ 2 * t.height + 2 := by
  unfold T.data
  rw [PyData.depth]
  have := items_depth t
  omega
theorem data_eqv (t u : T) : t.data.eqv u.data = decide (t = u) := by
  unfold T.data
  rw [PyData.eqv]; exact items_eqv t u
/-- the first eight numbers -/
def firstT : List T := [.nil, ofL [(1, .nil)], ofL [(1, ofL [(1, .nil)])], ofL [(1, ofL [(1, ofL [(1, .nil)])]), (-1, .nil)], ofL [(1, ofL [(1, ofL [(1, .nil)])])], ofL [(1, ofL [(1, ofL [(1, .nil)])]), (1, .nil)],
  ofL [(1, ofL [(1, ofL [(1, ofL [(1, .nil)])]), (-1, .nil)]), (-1, ofL [(1, .nil)])], ofL [(1, ofL [(1, ofL [(1, ofL [(1, .nil)])]), (-1, .nil)]), (-1, .nil)]]
theorem first_can : ∀ t ∈ firstT, t.can := by
  intro t h
  simp only [firstT, List.mem_cons, List.not_mem_nil, or_false] at h
  rcases h with rfl | rfl | rfl | rfl | rfl | rfl | rfl | rfl <;> simp [ofL, T.can, T.lead, T.val]
theorem first_val : firstT.map T.val = (List.range 8).map fun i : Nat => (i : Int) := by decide +kernel
theorem first_eq : firstT = (List.range 8).map fun i : Nat => toT (i : Int) := by
  apply List.ext_getElem?
  intro i
  have hv := congrArg (fun l => l[i]?) first_val
  simp only [List.getElem?_map] at hv ⊢
  cases h1 : firstT[i]? with
  | none =>
    rw [h1] at hv
    cases h2 : (List.range 8)[i]? with
    | none => rfl
    | some j => rw [h2] at hv; cases hv
  | some t =>
    rw [h1] at hv
    cases h2 : (List.range 8)[i]? with
    | none => rw [h2] at hv; cases hv
    | some j =>
      rw [h2] at hv
      have hv' : t.val = (j : Int) := Option.some.inj hv
      exact congrArg some (can_uniq (first_can t (List.mem_of_getElem? h1)) (toT_can _) (by rw [hv', toT_val]))
theorem first_at {i : Nat} (h : i < 8) : firstT[i]? = some (toT (i : Int)) := by
  rw [first_eq, List.getElem?_map, List.getElem?_range h]; rfl
def firstD : PyData := .tuple (firstT.map T.data)
/-- a written tuple -/
def TupAt (K : PySem.W.Frag) (a : Addr) : Prop := ∃ o, K.lookup a = some o ∧ o.cls = .type "tuple" ∧ o.dict = none
theorem kdat_tup {K : PySem.W.Frag} {n : Nat} {a : Addr} {d : PyData} (h : kdat K n (.ref a) = some d) : TupAt K a := by
  cases n with
  | zero => cases h
  | succ n =>
    unfold kdat at h
    split at h
    · rename_i its z sl hk
      exact ⟨_, hk, rfl, rfl⟩
    · cases h
/-- the written tuple at a is that of the first numbers -/
def FirstAt (K : PySem.W.Frag) (a : Addr) : Prop := (∀ H, Dp K H (.ref a) firstD) ∧ TupAt K a
theorem first_mk {K : PySem.W.Frag} {n : Nat} {a : Addr} (h : kdat K n (.ref a) = some firstD) : FirstAt K a := ⟨kdat_ref h, kdat_tup h⟩
theorem FirstAt.out {K : PySem.W.Frag} {a : Addr} (h : FirstAt K a) (H : Hp) : ∃ xs, SqT K H a xs ∧ ItemsR (fun t v H => NumV K H v t) firstT xs H := by
  have h1 := h.1 H
  unfold firstD at h1
  cases h1 with
  | tup hs hd =>
    rename_i xs
    refine ⟨xs, hs, ?_⟩
    have key : ∀ (l : List T) (xs : List V), DpAll K H xs (l.map T.data) → ItemsR (fun t v H => NumV K H v t) l xs H := by
      intro l
      induction l with
      | nil => intro xs h; cases h; exact .nil
      | cons t r ih =>
        intro xs h
        cases h with
        | cons g1 g2 =>
          have := ih _ g2
          refine ⟨by rw [List.length_cons, List.length_cons, this.1], fun i y a h1 h2 => ?_⟩
          cases i with
          | zero => simp at h1 h2; subst h1 h2; exact g1
          | succ i => simp at h1 h2; exact this.2 i y a h1 h2
    exact key _ _ hd
end Sk

set_option Elab.async false
set_option linter.all false
set_option maxRecDepth 100000
set_option maxHeartbeats 2000000
namespace Sk
open PySem L2 Evl
/-- a def with defaults, where it stands -/
structure DefAtD (K : PySem.W.Frag) (mg : Str → Option Value) (x : Str) (st : Stmt) (ps : List Str) (dvs : List V) (f : Addr) (fd : FuncData) : Prop where
  fn : FunD K x x (defArgs st) (defBody st) (defScope st) dvs [] f fd
  m : mg x = some (.ref f)
  b : Binds K fd ps []
  b1 : ∃ ds, Vals dvs ds ∧ Binds K fd ps ds
theorem defD_mk {K : PySem.W.Frag} {mg : Str → Option Value} {x : Str} {st : Stmt} {ps : List Str} {i : Int} {tk : Tok} {n : Nat} {f T : Addr} {oc oc2 : Value} {od od2 an : Option Addr} {osl osl2 : Array (Option Value)} {kV doc pm cdv ct : Value}
    (hl : K.lookup f = some ⟨oc, od, .func (PySem.W.fnOf x x (defArgs st) (defBody st) (defScope st) (.ref T) kV doc pm an cdv ct), osl⟩) (hT : K.lookup T = some ⟨oc2, od2, .seq #[.int i tk] n, osl2⟩) (hc : PySem.W.codeIn K cdv x = true) (hk : PySem.W.keepIn K (.ref f) = true) (hm : mg x = some (.ref f)) (hps : ps.length = 2)
    (h2 : ∀ (T : Addr) (kV doc pm : Value) (an : Option Addr) (cdv ct : Value) (us its : List Value), us.length = 2 → its.length = 1 → ∃ k, bindArgs (PySem.W.fnOf x x (defArgs st) (defBody st) (defScope st) (.ref T) kV doc pm an cdv ct) ⟨us, []⟩ = seqItems? (.ref T) >>= k ∧ k (some its.toArray) = pure (ps.zip (us ++ List.drop 1 its)))
    (h1 : ∀ (T : Addr) (kV doc pm : Value) (an : Option Addr) (cdv ct : Value) (us its : List Value), us.length = 1 → its.length = 1 → ∃ k, bindArgs (PySem.W.fnOf x x (defArgs st) (defBody st) (defScope st) (.ref T) kV doc pm an cdv ct) ⟨us, []⟩ = seqItems? (.ref T) >>= k ∧ k (some its.toArray) = pure (ps.zip (us ++ List.drop 0 its))) :
    DefAtD K mg x st ps [.int i] f (PySem.W.fnOf x x (defArgs st) (defBody st) (defScope st) (.ref T) kV doc pm an cdv ct) := by
  have F : FunD K x x (defArgs st) (defBody st) (defScope st) [.int i] [] f (PySem.W.fnOf x x (defArgs st) (defBody st) (defScope st) (.ref T) kV doc pm an cdv ct) :=
    ⟨⟨oc, od, _, kV, doc, pm, an, cdv, ct, osl, rfl, hl, hc, .inr ⟨by simp, T, _, [.int i tk], n, rfl, hT, rfl, .cons ⟨tk, rfl⟩ .nil⟩, .inl rfl⟩, hk⟩
  refine ⟨F, hm, ?_, ?_⟩
  · obtain ⟨ds, g1, g2⟩ := F.binds1 (ps := ps) 2 1 (by simp) (by rw [hps]; rfl) h2
    cases g1
    exact g2
  · exact F.binds1 (ps := ps) 1 0 (by simp) (by rw [hps]; rfl) h1
theorem fn_vac {P : Program} {w : World} {K : PySem.W.Frag} {mg : Str → Option Value} {base : Heap} {CX : CXT} {k : Nat} {f : Addr} {fd : FuncData} {ps : List Str} {sp : Sp} (no : ∀ vs H Q E, ¬ sp vs H Q E) : FnOk P w K mg base CX k f fd ps sp := ⟨fun vs H Q E h => absurd h (no vs H Q E), fun A outer s H args us vs Q E _ _ _ _ h => absurd h (no vs H Q E)⟩
end Sk

set_option Elab.async false
set_option linter.all false
set_option maxRecDepth 100000
set_option maxHeartbeats 1000000
namespace Sk
open PySem L2 Evl PySem.Spec PyProof.Rows
/-! ### C.m(e, ..), m a def of the class at C -/
def tCFn (C : Addr) (sp : Sp) (E : XK) (t : TA) : TE := fun σ H Q => t σ H fun vs H2 => sp vs H2 Q E
section
variable {X : Cx} {CX : CXT} {k : Nat} {C g : Addr} {fd : FuncData} {ps : List Str} {mc : Value} {sp : Sp} {E : XK} {e : Expr} {es : List Expr} {x m : Str} {pos apos p : Pos} {t : TA} {pl : Sem Bool}
theorem pe_cfn (hg : Gl X x) (hm : X.mg x = some (.ref C)) (r : ClX.CRead X.K C mc) (c : ClX.CVal X.K C mc m (.ref g) (.ref g)) (kp : PySem.W.keepIn X.K (.ref g) = true) (F : FnOk X.prog X.w X.K X.mg X.base CX k g fd ps sp) (hr : Room k X.A) (hb : Binds X.K fd ps []) (hx : Passes CX X E) (ha : PA X (e :: es) t)
    (hdb : (x == ("__debug__" : Str)) = false := by decide)
    (hst : starEach (e :: es) X.env = (false, eval e X.env) :: starEach es X.env := by rfl) (hpl : (backTo pos (starEach es X.env)).any (·.1) = false := by rfl)
    (ht : eval (.Call (.Attribute (.Name x p) m apos) (e :: es) [] pos) X.env = (do
      let ov ← eval (.Name x p) X.env
      standAt apos.atName
      let (f, first) ← holding [ov] (getMethod ov m pl)
      callWith pos f first (backTo pos (starEach (e :: es) X.env)) (backToKw pos (keywordEach [] X.env))) := by rfl) :
    PE X (.Call (.Attribute (.Name x p) m apos) (e :: es) [] pos) (tCFn C sp E t) := by
  refine ⟨fun pins s σ H Q I h => ?_⟩
  refine PySem.W.methodCall_KW (pl := pl) (ld_glob I hg hm ?_ hdb) ht
  refine PySem.W.method_cls (I.tok _).kIn r.ga (ClX.getcval_ok (I.tok _) r c fun s2 I2 => ?_)
  refine PySem.W.callWith_K (h₀ := X.base) I.ok.mod.kin kp (thn (ha.run pos pins s2 σ H _ I2 h) fun us s1 ⟨vs, H1, I1, r, q⟩ => ⟨I1.kIn, ?_⟩) hst hpl
  exact run_fn F hr hb .nil hx I1 r (by rw [List.append_nil]; exact q)
end
/-- ReckonError.__init__(self, why, word) -/
def sp_rinit (K : PySem.W.Frag) : Sp := fun vs H Q _ => ∃ (a C : Addr) (u : V) (w : Str), vs = [.ref a, u, .str w] ∧ OexC K C ∧ PySem.W.findIn K (.ref C) "word" = some none ∧ H a = some (exo a C none) ∧ ∀ dx, H dx = none → dx ≠ a → Q .non (upd (upd H dx (exd dx [("word", .str w)])) a (exo a C (some dx)))
def t_rinit (K : PySem.W.Frag) : TS := tSeq (tDrop (tVeI K (tCons (tVar 0) (tCons (tVar 1) tNil)))) (tOst K "word" (tVar 0) (tVar 2))
theorem pure_rinit {K : PySem.W.Frag} {vs : List V} {H : Hp} {Q : VK} {E : XK} (h : sp_rinit K vs H Q E) : t_rinit K { nx := fun _ H' => Q .non H', rt := Q } (start ["self", "why", "word"] vs) H := by
  obtain ⟨a, C, u, w, rfl, T, hw, ha, k⟩ := h
  refine ⟨.ref a, rfl, u, rfl, a, C, [u], rfl, (by show 1 ≤ 1000; omega), T, ha, ?_⟩
  exact ⟨.str w, rfl, .ref a, rfl, a, C, rfl, T, hw, .inl ⟨ha, fun dx h1 h2 => k dx h1 h2⟩⟩
/-- X.__init__(self, why) -/
def sp_cinit (K : PySem.W.Frag) (w : Str) : Sp := fun vs H Q _ => ∃ (a C : Addr) (u : V), vs = [.ref a, u] ∧ OexC K C ∧ PySem.W.findIn K (.ref C) "word" = some none ∧ H a = some (exo a C none) ∧ ∀ dx, H dx = none → dx ≠ a → Q .non (upd (upd H dx (exd dx [("word", .str w)])) a (exo a C (some dx)))
def t_cinit (K : PySem.W.Frag) (aR : Addr) (w : Str) : TS := tDrop (tCFn aR (sp_rinit K) E0 (tCons (tVar 0) (tCons (tVar 1) (tCons (tC (.str w)) tNil))))
theorem pure_cinit {K : PySem.W.Frag} {aR : Addr} {w : Str} {vs : List V} {H : Hp} {Q : VK} {E : XK} (h : sp_cinit K w vs H Q E) : t_cinit K aR w { nx := fun _ H' => Q .non H', rt := Q } (start ["self", "why"] vs) H := by
  obtain ⟨a, C, u, rfl, T, hw, ha, k⟩ := h
  exact ⟨.ref a, rfl, u, rfl, a, C, u, w, rfl, T, hw, ha, fun dx h1 h2 => k dx h1 h2⟩
/-- an own error class that is raised: how it is made -/
structure ErrC (P : Program) (w : World) (K : PySem.W.Frag) (mg : Str → Option Value) (base : Heap) (x : Str) (C : Addr) : Prop where
  m : mg x = some (.ref C)
  T : OexC K C
  nm : nameIn K C = some x
  hw : PySem.W.findIn K (.ref C) "word" = some none
  i : ∃ (fI : Addr) (fd : FuncData), PySem.W.findIn K (.ref C) "__init__" = some (some (.ref fI)) ∧ PySem.W.typeIn K (.ref fI) = some (.type "function") ∧ Binds K fd ["self", "why"] [] ∧ FnOk P w K mg base CX0 2 fI fd ["self", "why"] (sp_cinit K (wordOf x))
section
variable {X : Cx} {C : Addr} {x m : Str} {j : Nat} {p p2 pos pos' : Pos}
theorem pmk_err (T : ErrC X.prog X.w X.K X.mg X.base x C) (hr : Room 3 X.A) (hg : Gl X x) (hdb : (x == ("__debug__" : Str)) = false := by decide) :
    PMk X (.Call (.Name x p) [.Constant (.str m) j p2] [] pos) (fun _ H Q => ∀ H', Ex H H' → ∀ d, ErrAt X.K C d H' → Q (.ref C) (some d) H') := by
  obtain ⟨fI, fd, h1, h2, h3, F⟩ := T.i
  intro pins s σ H Q I h
  refine pmk_oex T.T h1 h2 F hr h3 .nil (fun _ _ _ _ _ _ _ h => h.elim) hg T.m (pa_cons (pe_str (x := m)) pa_nil) hdb rfl rfl pins s σ H Q I ?_
  refine ⟨(by show 1 ≤ 1000; omega), fun a ha => ⟨a, C, .str m, rfl, T.T, T.hw, upd_same, fun dx hd hne => ⟨rfl, dx, [("word", .str (wordOf x))], upd_same, ?_, ?_, ?_⟩⟩⟩
  · rw [upd_ne hne, upd_same]
  · rw [upd_ne hne] at hd; exact hd
  · rw [upd_ne hne] at hd
    refine h _ (fun b o hb => ?_) dx ⟨x, T.nm, upd_same⟩
    have hb1 : b ≠ dx := fun z => by rw [z, hd] at hb; cases hb
    have hb2 : b ≠ a := fun z => by rw [z, ha] at hb; cases hb
    rw [upd_ne hb1, del_ne hb2, upd_ne hb2, upd_ne hb1, upd_ne hb2]
    exact hb
theorem ps_err {E : XK} {W : WX} (hc : X.calm = true) (tk : Takes X W) (hW : W = fun cls d _ H => E cls d H) (T : ErrC X.prog X.w X.K X.mg X.base x C) (hr : Room 3 X.A) (hg : Gl X x) (hdb : (x == ("__debug__" : Str)) = false := by decide) :
    PS X (.Raise (some (.Call (.Name x p) [.Constant (.str m) j p2] [] pos)) none pos') (tRaise X.K E C) := by
  subst hW
  exact ps_raise hc tk (pmk_err T hr hg hdb)
end
/-! ### what the text says of the errors' classes -/
section
variable {P : Program} {w : World} {K : PySem.W.Frag} {mg : Str → Option Value} {base : Heap} {x qual : Str} {st : Stmt} {f T C : Addr} {oc oc2 : Value} {od od2 an : Option Addr} {osl osl2 : Array (Option Value)} {kV doc pm cdv ct : Value} {n : Nat} {tk tk2 : Tok} {e1 e2 : Str}
theorem init_mk1 (hl : K.lookup f = some ⟨oc, od, .func (PySem.W.fnOf x qual (defArgs st) (defBody st) (defScope st) (.ref T) kV doc pm an cdv ct), osl⟩) (hT : K.lookup T = some ⟨oc2, od2, .seq #[.str e1 tk] n, osl2⟩) (hc : PySem.W.codeIn K cdv qual = true) (hk : PySem.W.keepIn K (.ref f) = true) :
    FunD K x qual (defArgs st) (defBody st) (defScope st) [.str e1] [] f (PySem.W.fnOf x qual (defArgs st) (defBody st) (defScope st) (.ref T) kV doc pm an cdv ct) :=
  ⟨⟨oc, od, _, kV, doc, pm, an, cdv, ct, osl, rfl, hl, hc, .inr ⟨by simp, T, _, [.str e1 tk], n, rfl, hT, rfl, .cons ⟨tk, rfl⟩ .nil⟩, .inl rfl⟩, hk⟩
theorem init_mk2 (hl : K.lookup f = some ⟨oc, od, .func (PySem.W.fnOf x qual (defArgs st) (defBody st) (defScope st) (.ref T) kV doc pm an cdv ct), osl⟩) (hT : K.lookup T = some ⟨oc2, od2, .seq #[.str e1 tk, .str e2 tk2] n, osl2⟩) (hc : PySem.W.codeIn K cdv qual = true) (hk : PySem.W.keepIn K (.ref f) = true) :
    FunD K x qual (defArgs st) (defBody st) (defScope st) [.str e1, .str e2] [] f (PySem.W.fnOf x qual (defArgs st) (defBody st) (defScope st) (.ref T) kV doc pm an cdv ct) :=
  ⟨⟨oc, od, _, kV, doc, pm, an, cdv, ct, osl, rfl, hl, hc, .inr ⟨by simp, T, _, [.str e1 tk, .str e2 tk2], n, rfl, hT, rfl, .cons ⟨tk, rfl⟩ (.cons ⟨tk2, rfl⟩ .nil)⟩, .inl rfl⟩, hk⟩
theorem binds_full {l : List V} {fd : FuncData} {ps : List Str} (h : ∃ ds, Vals l ds ∧ Binds K fd ps ds) (hl : l = []) : Binds K fd ps [] := by
  subst hl
  obtain ⟨ds, h1, h2⟩ := h
  cases h1
  exact h2
theorem oex_mk {nm q : Str} {N : Addr} {bs bm sub : List Value} {sn : List Str} {ab : Bool} {col : Option Bool} {dd : Option Addr} {k0 k1 k2 k3 k5 : Option Value} (hl : K.lookup C = some (excClassObj nm q C N bs bm true sn sub ab col dd k0 k1 k2 k3 k5 "ValueError.__new__")) (hr : PySem.HandSPX.refsVE bm = true)
    (sa : PySem.W.findIn K (.ref C) "__setattr__" = some (some (.builtin "object.__setattr__"))) (A : ClsAt K mg x C) : OexC K C ∧ nameIn K C = some nm :=
  ⟨⟨⟨_, _, _, _, _, _, _, _, _, _, _, _, _, _, _, hl, hr⟩, sa, A.sb, A.ty, A.k⟩, by unfold nameIn PySem.W.clsIn; rw [hl] <;> rfl⟩
end
end Sk

set_option Elab.async false
set_option linter.all false
set_option maxRecDepth 100000
set_option maxHeartbeats 2000000
namespace Sk
open PySem L2 Evl
/-! ### signed_places -/
def pSigned : V → Hp → VP → Prop := fun x H R => ∃ (n : Int) (k : Nat), x = .int n ∧ k ≤ 70000 ∧ n.natAbs ≤ 2 ^ k ∧ R = ListR PairI (naf n 0)
def sp_signed_places (K : PySem.W.Frag) : Sp := spF1 pSigned
/-- n & -n -/
def xLow : R2 := fun x y H Q => ∃ (k : Nat) (a : Int), x = .int (2 ^ k * (2 * a + 1)) ∧ y = .int (-(2 ^ k * (2 * a + 1))) ∧ Q (.int (2 ^ k)) H
theorem op_low {X : Cx} : OpR X (binaryOp .BitAnd) xLow := fun pins s σ H x y v u Q I rx ry h => by
  obtain ⟨k, a, rfl, rfl, q⟩ := h
  rw [← PySem.W.kbt_low k a] at q
  exact op_and pins s σ H _ _ v u Q I rx ry ⟨_, _, rfl, rfl, q⟩
def t_signed_places (K : PySem.W.Frag) : TS := (tSeq (tAsg (tLst tNil) (gName 1))
    (tSeq (tAsg (tC (.int 0)) (gName 2))
    (tSeq (tWhile (tTest (tOp rNe (tVar 0) (tC (.int 0)))) (tSeq (tAsg (tOp xSub (tBits (tOp xLow (tVar 0) (tUn xNeg (tVar 0)))) (tC (.int 1))) (gName 3))
    (tSeq (tAug 2 (tVar 3) (ipI fun i j => i + j))
    (tSeq (tAug 0 (tVar 3) xShr)
    (tSeq (tAsg (tOp xSub (tC (.int 2)) (tOp xAndM (tVar 0) (tC (.int 3)))) (gName 4))
    (tSeq (tDrop (tBM K "list" rAppend (tVar 1) (tCons (tTup (tCons (tVar 4) (tCons (tVar 2) tNil))) tNil)))
    (tAug 0 (tVar 4) (ipI fun i j => i - j))))))))
    (tRet (tVar 1)))))
theorem naf_len : ∀ (k : Nat) (n : Int) (p : Nat), n.natAbs ≤ 2 ^ k → (naf n p).length ≤ k + 1
  | 0, n, p, h => by
    have h' : n = 0 ∨ n = 1 ∨ n = -1 := by simp at h; omega
    rcases h' with rfl | rfl | rfl
    · rw [naf_zero]; exact Nat.zero_le _
    · rw [naf_odd (by decide), show ((1 : Int) - (2 - 1 % 4)) / 2 = 0 by decide, naf_zero]; exact Nat.le_refl _
    · rw [naf_odd (by decide), show ((-1 : Int) - (2 - -1 % 4)) / 2 = 0 by decide, naf_zero]; exact Nat.le_refl _
  | k + 1, n, p, h => by
    rw [Nat.pow_succ] at h
    rcases Int.emod_two_eq n with q | q
    · rw [naf_even q]
      exact Nat.le_trans (naf_len k (n / 2) (p + 1) (by omega)) (by omega)
    · rw [naf_odd q, List.length_cons]
      have h1 : 0 < 2 ^ k := Nat.two_pow_pos k
      exact Nat.succ_le_succ (naf_len k _ (p + 1) (by omega))
theorem naf_shift (m : Int) : ∀ (k p : Nat), naf (2 ^ k * m) p = naf m (p + k)
  | 0, p => by rw [Int.pow_zero, Int.one_mul]; rfl
  | k + 1, p => by
    have e : (2 : Int) ^ (k + 1) * m = 2 * (2 ^ k * m) := by rw [Int.pow_succ, Int.mul_comm (2 ^ k) 2, Int.mul_assoc]
    rw [e, naf_even (by omega)]
    have e2 : 2 * (2 ^ k * m) / 2 = 2 ^ k * m := by omega
    rw [e2, naf_shift m k (p + 1)]
    congr 1
    omega
theorem odd_part : ∀ (j : Nat) (n : Int), n.natAbs ≤ j → n ≠ 0 → ∃ (k : Nat) (a : Int), n = 2 ^ k * (2 * a + 1)
  | 0, n, h, h0 => absurd (by omega) h0
  | j + 1, n, h, h0 => by
    rcases Int.emod_two_eq n with q | q
    · obtain ⟨k, a, e⟩ := odd_part j (n / 2) (by omega) (by omega)
      refine ⟨k + 1, a, ?_⟩
      rw [Int.pow_succ, Int.mul_comm (2 ^ k) 2, Int.mul_assoc, ← e]
      omega
    · exact ⟨0, n / 2, by rw [Int.pow_zero, Int.one_mul]; omega⟩
theorem ip_shr {X : Cx} : PIp X .RShift xShr := fun pins s σ H x y v u Q I r1 r2 h => iop_shr pins s σ H x y v u Q I r1 r2 h
theorem bits_two_pow (k : Nat) : Builtin.Int.intBits ((2 : Int) ^ k) = k + 1 := by
  unfold Builtin.Int.intBits
  have h : ((2 : Int) ^ k).natAbs = 2 ^ k := by rw [Int.natAbs_pow]; rfl
  have h0 : (2 : Int) ^ k ≠ 0 := Int.pow_ne_zero (by decide)
  rw [h, Nat.log2_two_pow]
  split
  · rename_i q
    have : (2 : Nat) ^ k ≠ 0 := Nat.pos_iff_ne_zero.mp (Nat.two_pow_pos k)
    simp at q
    first | exact absurd q h0 | exact absurd q this
  · rfl
theorem q_shr {σ : L2.St} {H : Hp} {D : Ends} {tz : TS} {i : Nat} {a : Int} {k : Nat} {te : TE} (hx : σ[i]? = some (some (.int a))) (h : Ev te σ H (.int (k : Int))) (n : ∀ H1, Ex H H1 → tz D (σ.set i (some (.int (a / 2 ^ k)))) H1) : tSeq (tAug i te xShr) tz D σ H :=
  ⟨.int a, hx, h H (Ex.refl H) _ fun H1 e => ⟨a, (k : Int), rfl, rfl, by omega, n H1 e⟩⟩
def WSigned (n : Int) (l : Addr) (H0 : Hp) (m : Nat) (σ : L2.St) (H : Hp) : Prop := ∃ (r : Int) (p : Nat) (z z' : Option V) (ys : List V) (acc : List (Int × Nat)),
  σ = [some (.int r), some (.ref l), some (.int (p : Int)), z, z'] ∧ m = (naf r p).length ∧ H0 l = none ∧ Ex H0 H ∧ H l = some (.lst ys) ∧ ItemsR PairI acc ys H ∧ acc ++ naf r p = naf n 0
theorem pure_signed_places {K : PySem.W.Frag} {vs : List V} {H : Hp} {Q : VK} {E : XK} (h : sp_signed_places K vs H Q E) : t_signed_places K { nx := fun _ H' => Q .non H', rt := Q } (start ["value", "found", "place", "zeros", "sign"] vs) H := by
  obtain ⟨x, R, rfl, ⟨n, kb, rfl, hkb, hb, rfl⟩, k⟩ := h
  have hlen := naf_len _ n 0 hb
  refine q_asgL (el_lst ea_nil (by decide)) fun l H1 hl e1 h1 => ?_
  refine q_asg ev_c fun H2 e2 => ?_
  refine q_while' (WSigned n l H) (naf n 0).length ⟨n, 0, none, none, [], [], rfl, rfl, hl, e1.trans e2, e2 l _ h1, .nil, rfl⟩ ?_
  rintro m σ' H' ⟨r, p, z, z', ys, acc, rfl, rfl, hl0, e3, h3, h4, h5⟩
  refine ⟨!decide (V.int r = V.int 0), et_test (ev_ne (ev_var rfl) ev_c rfl), fun hb1 H4 e4 => ?_, fun hb1 H4 e4 => ?_⟩
  · have hr : r ≠ 0 := fun q => by subst q; simp at hb1
    obtain ⟨kk, a, hra⟩ := odd_part _ r (Nat.le_refl _) hr
    have hys : ys.length < 100000 := by
      have := congrArg List.length h5
      rw [List.length_append, ← h4.1] at this
      omega
    have hodd : (2 * a + 1) % 2 = 1 := by omega
    have hnaf : naf r p = (2 - (2 * a + 1) % 4, p + kk) :: naf (2 * a + 1 - (2 - (2 * a + 1) % 4)) (p + kk) := by
      rw [hra, naf_shift, naf_odd hodd, naf_even (n := 2 * a + 1 - (2 - (2 * a + 1) % 4)) (by omega)]
    have hq : r / 2 ^ kk = 2 * a + 1 := by
      rw [hra]
      exact Int.mul_ediv_cancel_left _ (Int.pow_ne_zero (by decide))
    have low : Ev (tOp xLow (tVar 0) (tUn xNeg (tVar 0))) [some (V.int r), some (.ref l), some (.int (p : Int)), z, z'] H4 (.int (2 ^ kk)) := ev_op (ev_var rfl) (ev_neg (ev_var rfl)) fun H1 _ Q q => ⟨kk, a, by rw [hra], by rw [hra], q H1 (Ex.refl H1)⟩
    refine q_asg (v := .int (kk : Int)) (ev_is (ev_sub (ev_bits low) ev_c) (by rw [bits_two_pow]; congr 1; omega)) fun H5 e5 => ?_
    refine q_aug (a := (p : Int)) (b := (kk : Int)) rfl (ev_var rfl) fun H6 e6 => ?_
    refine q_shr (a := r) (k := kk) rfl (ev_var rfl) fun H7 e7 => ?_
    rw [hq]
    refine q_asg (ev_sub ev_c (ev_andM (k := 2) (ev_var rfl) ev_c)) fun H8 e8 => ?_
    have e48 : Ex H' H8 := e4.trans (e5.trans (e6.trans (e7.trans e8)))
    refine q_appU (ys := [.int (2 - (2 * a + 1) % 2 ^ 2), .int ((p : Int) + (kk : Int))]) (e48 l _ h3) (ev_var rfl) (eu_tup (ea_cons (ev_var rfl) (ea_cons (ev_var rfl) ea_nil)) (by show 2 ≤ 100000; decide)) hys fun q H9 hq9 e9 h9 => ?_
    have e49 := e48.trans e9
    have hlt : TEx H9 (upd H9 l (.lst (ys ++ [V.ref q]))) := TEx.put (e49 l _ h3)
    have e22 : (2 : Int) ^ 2 = 4 := by decide
    have hnl : q ≠ l := fun e => by rw [e, e49 l _ h3] at h9; cases h9
    refine s_aug (a := 2 * a + 1) (b := 2 - (2 * a + 1) % 2 ^ 2) rfl (ev_var rfl) fun H10 e10 => ?_
    refine ⟨(naf (2 * a + 1 - (2 - (2 * a + 1) % 4)) (p + kk)).length, by rw [hnaf, List.length_cons]; exact Nat.lt_succ_self _, 2 * a + 1 - (2 - (2 * a + 1) % 4), p + kk, some (.int (kk : Int)), some (.int (2 - (2 * a + 1) % 2 ^ 2)), ys ++ [V.ref q], acc ++ [(2 - (2 * a + 1) % 4, p + kk)], by rw [e22]; rfl, rfl, hl0, (Ex.mut (e3.trans e49) hl0).trans e10, e10 l _ upd_same, ?_, by rw [← h5, hnaf, List.append_assoc]; rfl⟩
    refine ItemsR.tex pairI (H := upd H9 l (.lst (ys ++ [V.ref q]))) ?_ (Ex.t e10)
    exact (h4.tex pairI ((Ex.t e49).trans hlt)).snoc ⟨q, rfl, by rw [upd_ne hnl, h9, e22]; rfl⟩
  · have hr : r = 0 := by simpa using hb1
    subst hr
    rw [naf_zero, List.append_nil] at h5
    subst h5
    refine s_ret (ev_var rfl) fun H5 e5 => k _ _ ((e3.trans e4).trans e5) ⟨l, ys, rfl, e5 l _ (e4 l _ h3), h4.tex pairI (Ex.t (e4.trans e5))⟩
end Sk

set_option Elab.async false
set_option linter.all false
set_option maxRecDepth 100000
set_option maxHeartbeats 2000000
namespace Sk
open PySem L2 Evl
/-! ### bare_number -/
/-- how great a number may be for d calls, one in another -/
def Cb : Nat → Nat
  | 0 => 0
  | 1 => 1
  | d + 2 => 2 ^ (Cb (d + 1) - 1) + 1
theorem Cb_pos : ∀ d, 1 ≤ Cb (d + 1)
  | 0 => Nat.le_refl _
  | d + 1 => Nat.le_add_left 1 _
theorem Cb_step {d : Nat} {n : Int} (h : n.natAbs < Cb (d + 1)) {x : Int × Nat} (hx : x ∈ naf n 0) : x.2 < Cb d := by
  cases d with
  | zero =>
    have : n = 0 := by
      have : n.natAbs < 1 := h
      omega
    subst this; rw [naf_zero] at hx; cases hx
  | succ d =>
    have h' : n.natAbs < 2 ^ (Cb (d + 1) - 1) + 1 := h
    have := naf_le (m := Cb (d + 1) - 1) (by omega) hx
    have := Cb_pos d
    omega
theorem Cb7 : Cb 7 = 2 ^ 65536 + 1 := by
  have h3 : Cb 3 = 3 := by decide
  have h4 : Cb 4 = 5 := by show 2 ^ (Cb 3 - 1) + 1 = 5; rw [h3] <;> rfl
  have h5 : Cb 5 = 17 := by show 2 ^ (Cb 4 - 1) + 1 = 17; rw [h4] <;> rfl
  have h6 : Cb 6 = 65537 := by show 2 ^ (Cb 5 - 1) + 1 = 65537; rw [h5] <;> rfl
  show 2 ^ (Cb 6 - 1) + 1 = 2 ^ 65536 + 1
  rw [h6]
theorem Cb7_ge : 2 ^ 65536 ≤ Cb 7 := by
  rw [Cb7]
  exact Nat.le_add_right _ _
theorem lt_Cb7 {m k : Nat} (h : m < 2 ^ k) (hk : k ≤ 65536) : m < Cb 7 := Nat.lt_of_lt_of_le h (Nat.le_trans (Nat.pow_le_pow_right (by decide) hk) Cb7_ge)
theorem Cb_mono : ∀ d, Cb d ≤ Cb (d + 1)
  | 0 => by decide
  | 1 => by decide
  | d + 2 => by
    have h := Cb_mono (d + 1)
    show 2 ^ (Cb (d + 1) - 1) + 1 ≤ 2 ^ (Cb (d + 2) - 1) + 1
    exact Nat.succ_le_succ (Nat.pow_le_pow_right (by decide) (Nat.sub_le_sub_right h 1))
theorem Cb_le : ∀ {d : Nat}, d ≤ 7 → Cb d ≤ 2 ^ 65536 + 1 := fun {d} h => by
  rw [← Cb7]
  have : ∀ k, Cb d ≤ Cb (d + k) := fun k => by
    induction k with
    | zero => exact Nat.le_refl _
    | succ k ih => exact Nat.le_trans ih (Cb_mono _)
  have h2 := this (7 - d)
  rw [show d + (7 - d) = 7 by omega] at h2
  exact h2
def pBare (K : PySem.W.Frag) (d : Nat) : V → Hp → VP → Prop := fun x H R => ∃ n : Int, x = .int n ∧ n.natAbs < Cb d ∧ d ≤ 7 ∧ R = fun v H' => NumV K H' v (toT n)
def sp_bare_number (K : PySem.W.Frag) (d : Nat) : Sp := spF1 (pBare K d)
def t_bare_number (K : PySem.W.Frag) (a_FIRST_NUMBERS : Addr) (d : Nat) : TS := (tSeq (tIfS (tTest (tChain xLe xLt (tC (.int 0)) (tVar 0) (tC (.int 8)))) (tRet (tOp (rIxT K) (tC (.ref a_FIRST_NUMBERS)) (tVar 0))) tNext)
    (tRet (tThen (tLc (iList K (tRevL K (tCall (sp_signed_places K) [] E0 (tCons (tVar 0) tNil)))) (gTup K 2 (gCons (gName 1) (gCons (gName 2) gNil))) tYes (tTup (tCons (tVar 1) (tCons (tCall (sp_bare_number K d) [] E0 (tCons (tVar 2) tNil)) tNil))) [1, 2]) (kTup K))))
/-- a term: a sign and a number -/
def TermI (K : PySem.W.Frag) (x : Int × T) : VP := fun v H => ∃ q w, v = .ref q ∧ SqT K H q [.int x.1, w] ∧ NumV K H w x.2
theorem termI {K : PySem.W.Frag} (x : Int × T) : MonoT (TermI K x) := fun v H H' e ⟨q, w, h1, h2, h3⟩ => ⟨q, w, h1, tex_sqt e h2, h3.tex e⟩
theorem termIm {K : PySem.W.Frag} {x : Int × T} : Mono (TermI K x) := (termI x).mono
theorem terms_items {K : PySem.W.Frag} {l : List (Int × T)} {ys : List V} {H : Hp} (h : ItemsR (TermI K) l ys H) : TermsV K H ys (ofL l) :=
  TermsV.of h.1 fun i x s e h1 h2 => by
    obtain ⟨q, w, g1, g2, g3⟩ := h.2 i x (s, e) h1 h2
    exact ⟨q, w, g1, g2, g3⟩
theorem items_terms {K : PySem.W.Frag} {t : T} {ys : List V} {H : Hp} (h : TermsV K H ys t) : ItemsR (TermI K) t.toL ys H :=
  ⟨h.len, fun i y x h1 h2 => by
    obtain ⟨p, s, e, w, g1, g2, g3, g4⟩ := h.get h1
    rw [h2] at g2
    cases g2
    exact ⟨p, w, g1, g3, g4⟩⟩
section
variable {K : PySem.W.Frag} {σ : L2.St} {H : Hp} {te tl : TE} {g : TG} {vs : List Nat}
/-- a comprehension over a list whose items stand for l, its own items standing for l too -/
theorem er_lcI {α : Type} {R1 R2 : α → VP} {l : List α} (hsrc : ER tl σ H (fun v H2 => ∃ a xs, v = .ref a ∧ SqL K H2 a xs ∧ ItemsR R1 l xs H2)) (m1 : ∀ a, Mono (R1 a)) (m2 : ∀ a, MonoT (R2 a)) (hz : l.length < 100000)
    (hb : ∀ (i : Nat) (a : α) x H1, l[i]? = some a → R1 a x H1 → Ex H H1 → ∀ Qk : VK, (∀ v H2, Ex H1 H2 → R2 a v H2 → Qk v H2) → g x (wipe σ vs) H1 fun σ2 H2 => wipe σ2 vs = wipe σ vs ∧ te σ2 H2 Qk) :
    ER (tLc (iList K tl) g tYes te vs) σ H (fun v H2 => ∃ p ys, v = .ref p ∧ H p = none ∧ H2 p = some (.lst ys) ∧ ItemsR R2 l ys H2) :=
  (er_lcL (S := fun xs H2 => ItemsR R1 l xs H2) (R := fun xs i v H2 => ∀ a, l[i]? = some a → R2 a v H2) hsrc (fun _ _ _ e h => h.ex m1 e) (fun xs H2 h => by rw [h.1]; exact hz) (fun xs i v H1 H2 e h a ha => m2 a v H1 H2 e (h a ha))
    (fun xs i x H1 hi e hS Qk q => by
      obtain ⟨a, ha, r⟩ := hS.of_at hi
      exact hb i a x H1 ha r e Qk fun v H2 e2 r2 => q v H2 e2 fun b hb => by rw [ha] at hb; cases hb; exact r2)).imp
    fun v H2 e ⟨p, xs, ys, h1, h2, h3, h4, h5, h6⟩ => ⟨p, ys, h1, h2, h3, h5.trans h4.1, fun i y a g1 g2 => h6 i y g1 a g2⟩
theorem er_lcIT {α : Type} {R1 R2 : α → VP} {l : List α} (hsrc : ER tl σ H (fun v H2 => ∃ a xs, v = .ref a ∧ SqT K H2 a xs ∧ ItemsR R1 l xs H2)) (m1 : ∀ a, Mono (R1 a)) (m2 : ∀ a, MonoT (R2 a)) (hz : l.length < 100000)
    (hb : ∀ (i : Nat) (a : α) x H1, l[i]? = some a → R1 a x H1 → Ex H H1 → ∀ Qk : VK, (∀ v H2, Ex H1 H2 → R2 a v H2 → Qk v H2) → g x (wipe σ vs) H1 fun σ2 H2 => wipe σ2 vs = wipe σ vs ∧ te σ2 H2 Qk) :
    ER (tLc (iTup K tl) g tYes te vs) σ H (fun v H2 => ∃ p ys, v = .ref p ∧ H p = none ∧ H2 p = some (.lst ys) ∧ ItemsR R2 l ys H2) :=
  (er_lcT (S := fun xs H2 => ItemsR R1 l xs H2) (R := fun xs i v H2 => ∀ a, l[i]? = some a → R2 a v H2) hsrc (fun _ _ _ e h => h.ex m1 e) (fun xs H2 h => by rw [h.1]; exact hz) (fun xs i v H1 H2 e h a ha => m2 a v H1 H2 e (h a ha))
    (fun xs i x H1 hi e hS Qk q => by
      obtain ⟨a, ha, r⟩ := hS.of_at hi
      exact hb i a x H1 ha r e Qk fun v H2 e2 r2 => q v H2 e2 fun b hb => by rw [ha] at hb; cases hb; exact r2)).imp
    fun v H2 e ⟨p, xs, ys, h1, h2, h3, h4, h5, h6⟩ => ⟨p, ys, h1, h2, h3, h5.trans h4.1, fun i y a g1 g2 => h6 i y g1 a g2⟩
/-- tuple(e), e a list -/
theorem er_tupleOf {R : List V → Hp → Prop} (h : ER te σ H (fun v H2 => ∃ p ys, v = .ref p ∧ SqL K H2 p ys ∧ R ys H2)) (m : MonoL R) : ER (tThen te (kTup K)) σ H (fun v H2 => ∃ p ys, v = .ref p ∧ H2 p = some (.tup ys) ∧ R ys H2) := fun H1 e Q q =>
  h H1 e _ fun v H2 e2 ⟨p, ys, h1, h2, h3⟩ => .inl ⟨p, ys, h1, h2, fun r hr => q _ _ (e2.trans (Ex.new hr)) ⟨r, ys, rfl, upd_same, m ys _ _ (Ex.new hr) h3⟩⟩
theorem er_revL {R : List V → Hp → Prop} (h : ER te σ H (fun v H2 => ∃ p ys, v = .ref p ∧ SqL K H2 p ys ∧ R ys H2)) (m : MonoL R) : ER (tRevL K te) σ H (fun v H2 => ∃ p ys, v = .ref p ∧ SqL K H2 p ys.reverse ∧ R ys H2) := fun H1 e Q q =>
  h H1 e _ fun v H2 e2 ⟨p, ys, h1, h2, h3⟩ => ⟨p, ys, h1, h2, fun r hr => q _ _ (e2.trans (Ex.new hr)) ⟨r, ys, rfl, sq_of upd_same, m ys _ _ (Ex.new hr) h3⟩⟩
end
theorem et_chainI {K : PySem.W.Frag} {σ : L2.St} {H : Hp} {ta tb tc : TE} {i j k : Int} (ha : Ev ta σ H (.int i)) (hb : Ev tb σ H (.int j)) (hc : Ev tc σ H (.int k)) : EvT (tTest (tChain xLe xLt ta tb tc)) σ H (decide (i ≤ j) && decide (j < k)) := fun H1 e Q q =>
  ha H1 e _ fun H2 e2 => hb H2 (e.trans e2) _ fun H3 e3 => ⟨i, j, rfl, rfl, decide (i ≤ j), rfl, by
    by_cases h : i ≤ j
    · rw [if_pos (decide_eq_true h)]
      refine hc H3 (e.trans (e2.trans e3)) _ fun H4 e4 => ⟨j, k, rfl, rfl, decide (j < k), rfl, ?_⟩
      have := q H4 (e2.trans (e3.trans e4))
      rw [decide_eq_true h, Bool.true_and] at this
      exact this
    · rw [if_neg (by rw [decide_eq_false h]; decide)]
      refine ⟨false, rfl, ?_⟩
      have := q H3 (e2.trans e3)
      rw [decide_eq_false h, Bool.false_and] at this
      exact this⟩
theorem pure_bare_number {K : PySem.W.Frag} {a_FIRST_NUMBERS : Addr} (hF : FirstAt K a_FIRST_NUMBERS) {d : Nat} {vs : List V} {H : Hp} {Q : VK} {E : XK} (h : sp_bare_number K (d + 1) vs H Q E) : t_bare_number K a_FIRST_NUMBERS d { nx := fun _ H' => Q .non H', rt := Q } (start ["value", "sign", "place"] vs) H := by
  obtain ⟨x, R, rfl, ⟨n, rfl, hb, hd, rfl⟩, k⟩ := h
  have hn : n.natAbs ≤ 2 ^ 65536 := by have := Cb_le hd; omega
  have hlen := naf_len _ n 0 hn
  refine q_when (et_chainI (K := K) ev_c (ev_var rfl) ev_c) (fun hc H0 e0 => ?_) (fun hc H0 e0 => ?_)
  · rw [Bool.and_eq_true, decide_eq_true_eq, decide_eq_true_eq] at hc
    obtain ⟨m, rfl⟩ : ∃ m : Nat, n = (m : Int) := ⟨n.toNat, by omega⟩
    obtain ⟨xs, hs, hit⟩ := hF.out H0
    obtain ⟨y, hy, hN⟩ := hit.at (first_at (i := m) (by omega))
    exact s_ret (ev_atT ev_c (ev_var rfl) hs (atI_nat hy)) fun H1 e1 => k _ _ (e0.trans e1) (NumV.ex hN e1)
  refine s_retR (er_tupleOf (R := fun ys H2 => ItemsR (TermI K) ((naf n 0).reverse.map fun x : Int × Nat => (x.1, toT (x.2 : Int))) ys H2) ?_ (fun ys H1 H2 e h => h.tex termI (Ex.t e))) fun v H1 e1 ⟨p, ys, hv, h1, h2⟩ => k v H1 (e0.trans e1) ?_
  · refine (er_lcI (R1 := PairI) (R2 := fun x : Int × Nat => TermI K (x.1, toT (x.2 : Int))) (l := (naf n 0).reverse) ?_ (fun a => (pairI a).mono) (fun a => termI _) (by rw [List.length_reverse]; omega) ?_).imp ?_
    · refine (er_revL (R := fun ys H2 => ItemsR PairI (naf n 0) ys H2) ((er_call1 (R1 := fun v _ => v = .int n) (er_is (ev_var rfl)) monoC fun v H1 e hv => ⟨n, 65536, hv, by decide, hn, rfl⟩).imp ?_) (fun ys H1 H2 e h => h.tex pairI (Ex.t e))).imp fun v H1 e ⟨p, ys, hv, h1, h2⟩ => ⟨p, _, hv, h1, h2.rev⟩
      exact fun v H1 e h => by
        obtain ⟨p, ys, hv, h1, h2⟩ := h
        exact ⟨p, ys, hv, sq_of h1, h2⟩
    · rintro i ⟨s, pl⟩ x H1 hi ⟨q, rfl, hq⟩ e1 Qk kk
      refine g_pair (st_of hq) ⟨rfl, ?_⟩
      have hm : (s, pl) ∈ naf n 0 := List.mem_reverse.mp (List.mem_of_getElem? hi)
      have hp : ((pl : Nat) : Int).natAbs < Cb d := by have := Cb_step hb hm; simpa using this
      refine (er_tup (ea_two (R := fun v _ => v = .int s) (R' := fun v H2 => NumV K H2 v (toT (pl : Int))) (er_is (ev_var rfl)) monoC (er_call1 (R1 := fun v _ => v = .int (pl : Int)) (er_is (ev_var rfl)) monoC fun v H2 e2 hv => ⟨pl, hv, hp, by omega, rfl⟩) (numT.mono))
        (fun vs H2 H3 e ⟨v, w, h1, h2, h3⟩ => ⟨v, w, h1, h2, h3.ex e⟩) (fun vs H2 ⟨v, w, h1, _⟩ => by rw [h1]; show 2 ≤ 100000; omega)) H1 (Ex.refl H1) _ fun v H2 e2 ⟨p, vs, hv, h1, u, w, h2, h3, h4⟩ => kk v H2 e2 ⟨p, w, hv, st_of (by rw [h1, h2, h3]), h4⟩
    · exact fun v H1 e ⟨p, ys, hv, h1, h2, h3⟩ => ⟨p, ys, hv, sq_of h2, by rw [List.length_map]; exact h3.1, fun i y a g1 g2 => by
        rw [List.getElem?_map] at g2
        cases hq : (naf n 0).reverse[i]? with
        | none => rw [hq] at g2; cases g2
        | some z => rw [hq] at g2; cases g2; exact h3.2 i y z g1 hq⟩
  · rw [hv, toT_eq]
    exact NumV.mk (st_of h1) (terms_items h2)
theorem vac_bare_number {K : PySem.W.Frag} {vs : List V} {H : Hp} {Q : VK} {E : XK} (h : sp_bare_number K 0 vs H Q E) : False := by obtain ⟨x, R, _, ⟨n, _, h, _⟩, _⟩ := h; exact Nat.not_lt_zero _ h
end Sk

set_option Elab.async false
set_option linter.all false
set_option maxRecDepth 100000
set_option maxHeartbeats 2000000
namespace Sk
open PySem L2 Evl
/-! ### value_within -/
theorem q_if {σ : L2.St} {H : Hp} {D : Ends} {t : TT} {tu tv tz : TS} {b : Bool} (h : EvT t σ H b) (h1 : b = true → ∀ H1, Ex H H1 → tu { D with nx := tz D } σ H1) (h2 : b = false → ∀ H1, Ex H H1 → tv { D with nx := tz D } σ H1) : tSeq (tIfS t tu tv) tz D σ H := s_if (D := { D with nx := tz D }) h h1 h2
/-- signs are signs, exponents are not below 0 (and lists not too long for the machine) -/
def T.nn : T → Prop
  | .nil => True
  | .cons s e r => ((s = 1 ∨ s = -1) ∧ 0 ≤ e.val ∧ e.toL.length < 100000 ∧ e.can) ∧ e.nn ∧ r.nn
theorem nn_ofL : ∀ {l : List (Int × T)}, (∀ x ∈ l, ((x.1 = 1 ∨ x.1 = -1) ∧ 0 ≤ x.2.val ∧ x.2.toL.length < 100000 ∧ x.2.can) ∧ x.2.nn) → (ofL l).nn
  | [], _ => True.intro
  | (s, e) :: r, h => ⟨(h (s, e) List.mem_cons_self).1, (h (s, e) List.mem_cons_self).2, nn_ofL fun x hx => h x (List.mem_cons_of_mem _ hx)⟩
theorem nn_toL : ∀ {t : T}, t.nn → ∀ x ∈ t.toL, ((x.1 = 1 ∨ x.1 = -1) ∧ 0 ≤ x.2.val ∧ x.2.toL.length < 100000 ∧ x.2.can) ∧ x.2.nn
  | .nil, _, x, hx => by cases hx
  | .cons s e r, h, x, hx => by
    rcases List.mem_cons.mp hx with rfl | hx
    · exact ⟨h.1, h.2.1⟩
    · exact nn_toL h.2.2 x hx
theorem toL_toT (n : Int) : (toT n).toL = (naf n 0).reverse.map fun x : Int × Nat => (x.1, toT (x.2 : Int)) := by rw [toT_eq, toL_ofL]
theorem toT_len {n : Int} {k : Nat} (h : n.natAbs ≤ 2 ^ k) : (toT n).toL.length ≤ k + 1 := by
  rw [toL_toT, List.length_map, List.length_reverse]
  exact naf_len k n 0 h
theorem lt_two_pow_self' (p : Nat) : p ≤ 2 ^ p := Nat.le_of_lt Nat.lt_two_pow_self
theorem toT_nn_aux (E : Nat) (hE : E ≤ 70000) : ∀ (k : Nat) (n : Int), n.natAbs ≤ k → n.natAbs ≤ 2 ^ E → (toT n).nn
  | k, n, hk, hb => by
    rw [toT_eq]
    refine nn_ofL fun x hx => ?_
    obtain ⟨y, hy, rfl⟩ := List.mem_map.mp hx
    have hy := List.mem_reverse.mp hy
    have hle := naf_le hb hy
    have hlt := naf_lt hy
    have h2 : y.2 ≤ 2 ^ E := Nat.le_trans (lt_two_pow_self' y.2) (Nat.pow_le_pow_right (by decide) hle)
    have h3 : (toT (y.2 : Int)).toL.length ≤ E + 1 := toT_len (k := E) (by simpa using h2)
    refine ⟨⟨naf_sign hy, by show 0 ≤ (toT (y.2 : Int)).val; rw [toT_val]; omega, by show (toT (y.2 : Int)).toL.length < 100000; omega, toT_can _⟩, ?_⟩
    cases k with
    | zero => omega
    | succ k => exact toT_nn_aux E hE k _ (by simp; omega) (by simpa using h2)
theorem toT_nn {E : Nat} (hE : E ≤ 70000) {n : Int} (h : n.natAbs ≤ 2 ^ E) : (toT n).nn := toT_nn_aux E hE _ n (Nat.le_refl _) h
theorem intBits_bl (b : Nat) : Builtin.Int.intBits (b : Int) = bl b := by
  unfold Builtin.Int.intBits bl
  by_cases h : b = 0
  · subst h; rfl
  · rw [if_neg (by simpa using h), if_neg h]; rfl
theorem bl_le (b : Nat) : bl b ≤ b := by
  unfold bl
  split
  · omega
  · rename_i h
    have h1 := Nat.log2_self_le h
    have h2 : b.log2 < 2 ^ b.log2 := Nat.lt_two_pow_self
    omega
def optV : Option Int → V
  | none => .non
  | some q => .int q
theorem T.height_mem : ∀ {t : T} {x : Int × T}, x ∈ t.toL → x.2.height < t.height
  | .nil, x, hx => by cases hx
  | .cons s e r, x, hx => by
    rcases List.mem_cons.mp hx with rfl | hx
    · show e.height < max (e.height + 1) r.height; omega
    · have := T.height_mem hx
      show x.2.height < max (e.height + 1) r.height; omega
def pWithin (K : PySem.W.Frag) (d : Nat) : V → V → Hp → VP → Prop := fun x y H R => ∃ (t : T) (b : Nat), NumV K H x t ∧ y = .int (b : Int) ∧ t.nn ∧ t.height < d ∧ b ≤ 100000 ∧ t.toL.length < 100000 ∧ R = fun v _ => v = optV (t.within b)
def sp_value_within (K : PySem.W.Frag) (d : Nat) : Sp := spF2 (pWithin K d)
def t_value_within (K : PySem.W.Frag) (a_FIRST_NUMBERS : Addr) (d : Nat) : TS := (tSeq (tAsg (tC (.int 0)) (gName 2))
    (tSeq (tFor (iTup K (tVar 0)) (gTup K 2 (gCons (gName 3) (gCons (gName 4) gNil))) (tSeq (tIfS (tTest (tOp xGe (tVar 1) (tC (.int 8)))) (tAsg (tCall (sp_value_within K d) [] E0 (tCons (tVar 4) (tCons (tBits (tVar 1)) tNil))) (gName 5)) (tIfS (tTest (tOp (rInN K) (tVar 4) (tC (.ref a_FIRST_NUMBERS)))) (tAsg (tBM K "tuple" (rIndexN K) (tC (.ref a_FIRST_NUMBERS)) (tCons (tVar 4) tNil)) (gName 5)) (tRet (tC .non))))
    (tSeq (tIfS (tOr (tTest (tOp xIsN (tVar 5) (tC .non))) (tTest (tOp xGt (tVar 5) (tVar 1)))) (tRet (tC .non)) tNext)
    (tAug 2 (tOp xShl (tVar 3) (tVar 5)) (ipI fun i j => i + j)))))
    (tRet (tVar 2))))
/-- behind i terms the total is so far what the rest is added to -/
def WWithin (v : V) (b : Nat) (t : T) (H0 : Hp) (i : Nat) (σ : L2.St) (H : Hp) : Prop := ∃ (tot : Int) (z3 z4 z5 : Option V), σ = [some v, some (.int (b : Int)), some (.int tot), z3, z4, z5] ∧ Ex H0 H ∧
  t.within b = ((ofL (t.toL.drop i)).within b).map (tot + ·)
theorem can_within {e : T} {b : Nat} (h : e.can) (h0 : 0 ≤ e.val) (hb : e.val ≤ b) : e.within (bl b) = some e.val := by
  have h1 := within_small e.val.toNat e.val.toNat (Nat.le_refl _) b (by omega)
  have e1 : ((e.val.toNat : Nat) : Int) = e.val := by omega
  rw [e1, ← can_eq h] at h1
  exact h1
theorem firstD_lay : PyData.canLayAll0 (firstT.map T.data) = true := by
  have : ∀ l : List T, PyData.canLayAll0 (l.map T.data) = true := by
    intro l
    induction l with
    | nil => rfl
    | cons t r ih => rw [List.map_cons, PyData.canLayAll0, data_lay, ih]; rfl
  exact this _
theorem firstD_depth : PyData.depthAll (firstT.map T.data) ≤ 100 := by decide +kernel
theorem first_any {e : T} (h : e.can) (h0 : 0 ≤ e.val) : (firstT.map T.data).any (fun z => PyData.eqv z e.data) = decide (e.val < 8) := by
  rw [Bool.eq_iff_iff, List.any_eq_true, decide_eq_true_eq]
  constructor
  · rintro ⟨z, hz, he⟩
    obtain ⟨t, ht, rfl⟩ := List.mem_map.mp hz
    rw [data_eqv, decide_eq_true_eq] at he
    subst he
    rw [first_eq] at ht
    obtain ⟨i, hi, rfl⟩ := List.mem_map.mp ht
    rw [toT_val]
    have := List.mem_range.mp hi
    omega
  · intro hlt
    have hm := first_at (i := e.val.toNat) (by omega)
    have e1 : ((e.val.toNat : Nat) : Int) = e.val := by omega
    rw [e1, ← can_eq h] at hm
    exact ⟨e.data, List.mem_map.mpr ⟨e, List.mem_of_getElem? hm, rfl⟩, by rw [data_eqv]; exact decide_eq_true rfl⟩
section
variable {K : PySem.W.Frag} {σ : L2.St} {H : Hp} {te : TE} {a : Addr}
theorem ev_inFirst {e : T} {w : V} {j : Nat} (hF : FirstAt K a) (hv : σ[j]? = some (some w)) (hw : NumV K H w e) (h : e.can) (h0 : 0 ≤ e.val) : Ev (tOp (rInN K) (tVar j) (tC (.ref a))) σ H (.bl (decide (e.val < 8))) := fun H1 e1 Q q =>
  ⟨w, hv, e.data, firstT.map T.data, hw.ex e1, hF.1 H1, data_lay e, firstD_lay, firstD_depth, by rw [first_any h h0]; exact q H1 (Ex.refl H1)⟩
theorem ev_indexFirst {e : T} {w : V} {j : Nat} (hF : FirstAt K a) (hv : σ[j]? = some (some w)) (hw : NumV K H w e) (h : e.can) (h0 : 0 ≤ e.val) (h8 : e.val < 8) : Ev (tBM K "tuple" (rIndexN K) (tC (.ref a)) (tCons (tVar j) tNil)) σ H (.int e.val) := fun H1 e1 Q q => by
  have hm := first_at (i := e.val.toNat) (by omega)
  have e2 : ((e.val.toNat : Nat) : Int) = e.val := by omega
  rw [e2, ← can_eq h] at hm
  refine ⟨.inr (.inl ⟨rfl, hF.2⟩), w, hv, a, w, e.data, firstT.map T.data, e.val.toNat, e.data, rfl, rfl, hF.1 H1, hw.ex e1, firstD_lay, data_lay e, firstD_depth, by rw [List.getElem?_map, hm]; rfl, by rw [data_eqv]; exact decide_eq_true rfl, ?_, by rw [e2]; exact q H1 (Ex.refl H1)⟩
  intro m z' hmj hz
  rw [List.getElem?_map, first_at (by omega)] at hz
  cases hz
  rw [data_eqv]
  refine decide_eq_false fun q => ?_
  have := congrArg T.val q
  rw [toT_val] at this
  omega
end
theorem pure_value_within {K : PySem.W.Frag} {a_FIRST_NUMBERS : Addr} (hF : FirstAt K a_FIRST_NUMBERS) {d : Nat} {vs : List V} {H : Hp} {Q : VK} {E : XK} (h : sp_value_within K (d + 1) vs H Q E) : t_value_within K a_FIRST_NUMBERS d { nx := fun _ H' => Q .non H', rt := Q } (start ["number", "bits", "total", "sign", "exponent", "place"] vs) H := by
  obtain ⟨x, y, R, rfl, ⟨t, b, hx, rfl, hnn, hh, hb, hl, rfl⟩, k⟩ := h
  obtain ⟨a, xs, rfl, hs, ht⟩ := hx.out
  have hit := items_terms ht
  refine q_asg ev_c fun H1 e1 => ?_
  refine q_forT (xs := xs) (ev_var rfl) (ex_t e1 hs) (WWithin (.ref a) b t H) (fun H2 e2 => ⟨0, none, none, none, rfl, e1.trans e2, ?_⟩) (fun i σ' H' _ ⟨_, _, _, _, _, e, _⟩ => ex_t e hs) ?_ ?_
  · rw [List.drop_zero, ofL_toL]; cases t.within b <;> simp
  · rintro i x σ' H' hi ⟨tot, z3, z4, z5, rfl, e2, hw⟩
    obtain ⟨⟨s, e⟩, hget, p, w, rfl, hp, hwv⟩ := (hit.ex (fun a => (termI a).mono) e2).of_at hi
    have hmem : (s, e) ∈ t.toL := List.mem_of_getElem? hget
    obtain ⟨⟨hsg, hev, hel, hec⟩, hen⟩ := nn_toL hnn _ hmem
    have hdrop : t.toL.drop i = (s, e) :: t.toL.drop (i + 1) := by
      have hlt : i < t.toL.length := (List.getElem?_eq_some_iff.mp hget).1
      rw [List.drop_eq_getElem_cons hlt]
      congr 1
      exact (List.getElem?_eq_some_iff.mp hget).2
    rw [hdrop, ofL, T.within] at hw
    -- an exponent above b ends it, another one goes on
    have hA : (b : Int) < e.val → t.within b = none := fun hlt => by
      rw [hw]
      cases hq : e.within (bl b) with
      | none => rfl
      | some q =>
        have hqv := within_val _ _ _ hq
        simp only
        rw [if_pos (by rw [hqv]; exact hlt)]; rfl
    have hB : e.val ≤ (b : Int) → t.within b = ((ofL (t.toL.drop (i + 1))).within b).map ((tot + s * 2 ^ e.val.toNat) + ·) := fun hle => by
      rw [hw, can_within hec hev hle]
      simp only
      rw [if_neg (by omega)]
      cases (ofL (t.toL.drop (i + 1))).within b with
      | none => rfl
      | some z => show some (tot + (s * 2 ^ e.val.toNat + z)) = some (tot + s * 2 ^ e.val.toNat + z); rw [Int.add_assoc]
    have fin : ∀ {z5 : Option V} {D : Ends} {H4 : Hp}, Ex H' H4 → D.rt = Q → (∀ σ2 H5, Ex H4 H5 → WWithin (.ref a) b t H (i + 1) σ2 H5 → D.nx σ2 H5) → tSeq (tIfS (tOr (tTest (tOp xIsN (tVar 5) (tC .non))) (tTest (tOp xGt (tVar 5) (tVar 1)))) (tRet (tC .non)) tNext)
        (tAug 2 (tOp xShl (tVar 3) (tVar 5)) (ipI fun i j => i + j)) D [some (.ref a), some (.int (b : Int)), some (.int tot), some (.int s), some w, some (.int e.val)] H4 := by
      intro z5 D H4 e4 hrt hnx
      refine q_when (b := decide ((b : Int) < e.val)) ?_ (fun hc H5 e5 => ?_) (fun hc H5 e5 => ?_)
      · exact et_is (et_or (a := false) (b := decide ((b : Int) < e.val)) (et_test (ev_is (ev_isN (ev_var rfl)) rfl)) (fun _ => et_test (ev_gt (ev_var rfl) (ev_var rfl)))) (Bool.false_or _)
      · exact s_ret ev_c fun H6 e6 => by rw [hrt]; exact k _ _ (e2.trans (e4.trans (e5.trans e6))) (by rw [hA (of_decide_eq_true hc)]; rfl)
      · have hc' : ¬ (b : Int) < e.val := of_decide_eq_false hc
        have hcp : CPow s e.val := ⟨hev, by omega, by rcases hsg with rfl | rfl <;> decide⟩
        refine s_aug (a := tot) (b := s * 2 ^ e.val.toNat) rfl (ev_shl (ev_var rfl) (ev_var rfl) hcp) fun H6 e6 => hnx _ _ (e5.trans e6) ⟨tot + s * 2 ^ e.val.toNat, _, _, _, rfl, e2.trans (e4.trans (e5.trans e6)), hB (by omega)⟩
    refine g_pair hp ?_
    refine q_if (b := decide ((8 : Int) ≤ (b : Int))) (et_test (ev_ge (ev_var rfl) ev_c)) (fun h8 H2 e2' => ?_) (fun h8 H2 e2' => ?_)
    · refine s_asgR (R := fun v _ => v = optV (e.within (bl b))) (er_call2 (R1 := fun v H => NumV K H v e) (R2 := fun v _ => v = .int (bl b : Nat)) (er_var rfl fun H1 e1 => hwv.ex (e2'.trans e1)) numT.mono ?_ monoC ?_) fun v H3 e3 hv => ?_
      · exact er_is (by rw [← intBits_bl]; exact ev_bits (ev_var rfl))
      · rintro v w' H1 e1 h1 rfl
        exact ⟨e, bl b, h1, rfl, hen, by have h := T.height_mem hmem; have h' : e.height < t.height := h; omega, Nat.le_trans (bl_le b) hb, hel, rfl⟩
      subst hv
      cases hq : e.within (bl b) with
      | none =>
        have hgt : (b : Int) < e.val := by
          apply Int.not_le.mp
          intro hle
          rw [can_within hec hev hle] at hq
          cases hq
        dsimp only
        refine q_when (b := true) ?_ (fun _ H4 e4 => ?_) (fun h => by cases h)
        · exact et_or (a := true) (b := false) (et_test (ev_is (ev_isN (ev_var rfl)) rfl)) (fun h => by cases h)
        · exact s_ret ev_c fun H5 e5 => k _ _ (e2.trans (e2'.trans (e3.trans (e4.trans e5)))) (by rw [hA hgt]; rfl)
      | some q =>
        have hqv := within_val _ _ _ hq
        subst hqv
        exact fin (z5 := z5) (e2'.trans e3) rfl fun σ2 H5 e5 h => h
    · refine s_if (b := decide (e.val < 8)) (et_test (ev_inFirst hF rfl (hwv.ex e2') hec hev)) (fun hc H3 e3 => ?_) (fun hc H3 e3 => ?_)
      · refine s_asgR (R := fun v _ => v = .int e.val) (er_is (ev_indexFirst hF rfl (hwv.ex (e2'.trans e3)) hec hev (of_decide_eq_true hc))) fun v H4 e4 hv => ?_
        subst hv
        exact fin (z5 := z5) (e2'.trans (e3.trans e4)) rfl fun σ2 H5 e5 h => h
      · have h1 := of_decide_eq_false hc
        have h2 := of_decide_eq_false h8
        exact s_ret ev_c fun H5 e5 => k _ _ (e2.trans (e2'.trans (e3.trans e5))) (by rw [hA (by omega)]; rfl)
  · rintro σ' H' ⟨tot, z3, z4, z5, rfl, e2, hw⟩
    have : t.toL.drop xs.length = [] := List.drop_eq_nil_of_le (by rw [hit.1]; exact Nat.le_refl _)
    rw [this] at hw
    refine s_ret (ev_var rfl) fun H5 e5 => k _ _ (e2.trans e5) ?_
    rw [hw]
    show V.int tot = optV (some (tot + 0))
    rw [Int.add_zero] <;> rfl
theorem vac_value_within {K : PySem.W.Frag} {vs : List V} {H : Hp} {Q : VK} {E : XK} (h : sp_value_within K 0 vs H Q E) : False := by obtain ⟨x, y, R, _, ⟨t, b, _, _, _, h, _⟩, _⟩ := h; exact Nat.not_lt_zero _ h
end Sk

set_option Elab.async false
set_option linter.all false
set_option maxRecDepth 100000
set_option maxHeartbeats 2000000
namespace Sk
open PySem L2 Evl
/-! ### trees in their form: parts, sizes, order -/
theorem mem_size : ∀ {t : T} {x : Int × T}, x ∈ t.toL → x.2.size < t.size ∧ x.2.height < t.height
  | .nil, x, h => by cases h
  | .cons s e r, x, h => by
    have e1 : (T.cons s e r).height = max (e.height + 1) r.height := rfl
    have e2 : (T.cons s e r).size = e.size + r.size := rfl
    have pos : ∀ t : T, 1 ≤ t.size := fun t => by
      induction t with
      | nil => exact Nat.le_refl _
      | cons s e r h1 h2 => show 1 ≤ e.size + r.size; omega
    have p1 := pos r
    have p2 := pos e
    rcases List.mem_cons.mp h with rfl | h
    · show e.size < _ ∧ e.height < _; omega
    · have := mem_size h; omega
theorem len_size (t : T) : t.toL.length < t.size := by
  induction t with
  | nil => exact Nat.lt_succ_self _
  | cons s e r h1 h2 =>
    show r.toL.length + 1 < e.size + r.size
    omega
theorem can_mem : ∀ {t : T}, t.can → ∀ x ∈ t.toL, x.2.can
  | .nil, _, x, hx => by cases hx
  | .cons s e r, h, x, hx => by
    rcases List.mem_cons.mp hx with rfl | hx
    · exact h.2.1
    · exact can_mem h.2.2 x hx
theorem can_sign : ∀ {t : T}, t.can → ∀ x ∈ t.toL, (x.1 = 1 ∨ x.1 = -1) ∧ 0 ≤ x.2.val
  | .nil, _, x, hx => by cases hx
  | .cons s e r, h, x, hx => by
    rcases List.mem_cons.mp hx with rfl | hx
    · exact ⟨h.1.1, h.1.2.1⟩
    · exact can_sign h.2.2 x hx
theorem can_lead : ∀ {t : T}, t.can → ∀ x ∈ t.toL, x.2.val ≤ t.lead
  | .nil, _, x, hx => by cases hx
  | .cons s e r, h, x, hx => by
    rcases List.mem_cons.mp hx with rfl | hx
    · exact Int.le_refl _
    · have := can_lead h.2.2 x hx
      have h2 := h.1.2.2
      show x.2.val ≤ e.val
      omega
theorem can_gap : ∀ {t : T}, t.can → t.toL.Pairwise (fun x y => y.2.val + 2 ≤ x.2.val)
  | .nil, _ => List.Pairwise.nil
  | .cons s e r, h => List.pairwise_cons.mpr ⟨fun x hx => by
      have := can_lead h.2.2 x hx
      have h2 := h.1.2.2
      show x.2.val + 2 ≤ e.val
      omega, can_gap h.2.2⟩
theorem nn_of_can : ∀ {t : T}, t.can → t.size < 100000 → t.nn
  | .nil, _, _ => True.intro
  | .cons s e r, h, hz => by
    have e2 : (T.cons s e r).size = e.size + r.size := rfl
    have h1 := len_size e
    have h2 := len_size r
    exact ⟨⟨h.1.1, h.1.2.1, by omega, h.2.1⟩, nn_of_can h.2.1 (by omega), nn_of_can h.2.2 (by omega)⟩
theorem val_app : ∀ l l' : List (Int × T), (ofL (l ++ l')).val = (ofL l).val + (ofL l').val
  | [], l' => by show _ = 0 + _; rw [Int.zero_add]; rfl
  | (s, e) :: l, l' => by
    show s * 2 ^ e.val.toNat + (ofL (l ++ l')).val = s * 2 ^ e.val.toNat + (ofL l).val + (ofL l').val
    rw [val_app l l']
    omega
theorem take_step {t : T} {keep : Nat} {s : Int} {e : T} (h : t.toL[keep]? = some (s, e)) : (ofL (t.toL.take (keep + 1))).val = (ofL (t.toL.take keep)).val + s * 2 ^ e.val.toNat := by
  obtain ⟨h1, h2⟩ := List.getElem?_eq_some_iff.mp h
  rw [List.take_succ_eq_append_getElem h1, val_app, h2]
  show _ + (s * 2 ^ e.val.toNat + 0) = _
  rw [Int.add_zero]

theorem can_drop {t : T} (h : t.can) (j : Nat) : (ofL (t.toL.drop j)).can :=
  can_ofL (fun x hx => ⟨(can_sign h x (List.mem_of_mem_drop hx)).1, (can_sign h x (List.mem_of_mem_drop hx)).2, can_mem h x (List.mem_of_mem_drop hx)⟩) ((can_gap h).sublist (List.drop_sublist _ _))
theorem can_take {t : T} (h : t.can) (j : Nat) : (ofL (t.toL.take j)).can :=
  can_ofL (fun x hx => ⟨(can_sign h x (List.mem_of_mem_take hx)).1, (can_sign h x (List.mem_of_mem_take hx)).2, can_mem h x (List.mem_of_mem_take hx)⟩) ((can_gap h).sublist (List.take_sublist _ _))
theorem val_cut (t : T) (j : Nat) : t.val = (ofL (t.toL.take j)).val + (ofL (t.toL.drop j)).val := by
  rw [← val_app, List.take_append_drop, ofL_toL]
theorem toL_inj {t u : T} (h : t.toL = u.toL) : t = u := by rw [← ofL_toL t, h, ofL_toL]
/-- -1, 0, 1: less, the same, greater -/
def cmpI (a b : Int) : Int := if a < b then -1 else if a = b then 0 else 1
theorem cmp_add (a x y : Int) : cmpI (a + x) (a + y) = cmpI x y := by
  unfold cmpI
  by_cases h : x < y
  · rw [if_pos h, if_pos (by omega)]
  · rw [if_neg h, if_neg (by omega)]
    by_cases h2 : x = y
    · rw [if_pos h2, if_pos (by omega)]
    · rw [if_neg h2, if_neg (by omega)]
theorem cmp_lt {x y : Int} (h : x < y) : cmpI x y = -1 := by unfold cmpI; rw [if_pos h]
theorem cmp_gt {x y : Int} (h : y < x) : cmpI x y = 1 := by unfold cmpI; rw [if_neg (by omega), if_neg (by omega)]
theorem cmp_self (x : Int) : cmpI x x = 0 := by unfold cmpI; rw [if_neg (Int.lt_irrefl _), if_pos rfl]
/-- the first terms that differ decide -/
theorem ord_diff {t u : T} {j : Nat} {s s' : Int} {e e' : T} (ht : t.can) (hu : u.can) (h : t.toL.take j = u.toL.take j) (h1 : t.toL[j]? = some (s, e)) (h2 : u.toL[j]? = some (s', e')) (hne : (s, e) ≠ (s', e')) :
    (s ≠ s' → cmpI t.val u.val = s) ∧ (s = s' → e ≠ e' ∧ cmpI t.val u.val = s * cmpI e.val e'.val) := by
  have d1 : t.toL.drop j = (s, e) :: t.toL.drop (j + 1) := by
    obtain ⟨g1, g2⟩ := List.getElem?_eq_some_iff.mp h1
    rw [List.drop_eq_getElem_cons g1, g2]
  have d2 : u.toL.drop j = (s', e') :: u.toL.drop (j + 1) := by
    obtain ⟨g1, g2⟩ := List.getElem?_eq_some_iff.mp h2
    rw [List.drop_eq_getElem_cons g1, g2]
  have c1 := can_drop ht j
  have c2 := can_drop hu j
  rw [d1] at c1
  rw [d2] at c2
  rw [val_cut t j, val_cut u j, h, cmp_add, d1, d2]
  generalize t.toL.drop (j + 1) = r at *
  generalize u.toL.drop (j + 1) = r' at *
  have p1 := can_pos c1
  have p2 := can_pos c2
  have k1 : s = 1 ∨ s = -1 := c1.1.1
  have k2 : s' = 1 ∨ s' = -1 := c2.1.1
  refine ⟨fun hs => ?_, fun hs => ?_⟩
  · show cmpI (T.cons s e (ofL r)).val (T.cons s' e' (ofL r')).val = s
    generalize (T.cons s e (ofL r)).val = x at *
    generalize (T.cons s' e' (ofL r')).val = y at *
    rcases k1 with rfl | rfl <;> rcases k2 with rfl | rfl
    · exact absurd rfl hs
    · exact cmp_gt (by omega)
    · exact cmp_lt (by omega)
    · exact absurd rfl hs
  · subst hs
    have hee : e ≠ e' := fun q => hne (by rw [q])
    refine ⟨hee, ?_⟩
    have hev : e.val ≠ e'.val := fun q => hee (can_uniq c1.2.1 c2.2.1 q)
    show cmpI (T.cons s e (ofL r)).val (T.cons s e' (ofL r')).val = _
    rcases Int.lt_or_gt_of_ne hev with q | q
    · have := (lead_lt c1 c2 q).1
      rw [cmp_lt q]
      generalize (T.cons s e (ofL r)).val = x at *
      generalize (T.cons s e' (ofL r')).val = y at *
      rcases k1 with rfl | rfl
      · rw [cmp_lt (by omega)]; rfl
      · rw [cmp_gt (by omega)]; rfl
    · have := (lead_lt c2 c1 q).1
      rw [cmp_gt q]
      generalize (T.cons s e (ofL r)).val = x at *
      generalize (T.cons s e' (ofL r')).val = y at *
      rcases k1 with rfl | rfl
      · rw [cmp_gt (by omega)]; rfl
      · rw [cmp_lt (by omega)]; rfl
/-- none differs as far as both go: the one that goes on decides -/
theorem ord_end {t u : T} {j : Nat} (ht : t.can) (hu : u.can) (h : t.toL.take j = u.toL.take j) (hne : t ≠ u) (hj : j = min t.toL.length u.toL.length) :
    (∃ s e r, t.toL.drop u.toL.length = (s, e) :: r ∧ u.toL.drop t.toL.length = [] ∧ cmpI t.val u.val = s) ∨ (∃ s e r, u.toL.drop t.toL.length = (s, e) :: r ∧ t.toL.drop u.toL.length = [] ∧ cmpI t.val u.val = -s) := by
  rcases Nat.lt_trichotomy t.toL.length u.toL.length with q | q | q
  · have ej : j = t.toL.length := by omega
    refine .inr ?_
    have hd : t.toL.drop j = [] := List.drop_eq_nil_of_le (by omega)
    have c2 := can_drop hu t.toL.length
    rw [val_cut t j, val_cut u j, h, cmp_add, hd, ← ej] at *
    cases hq : u.toL.drop j with
    | nil => have := congrArg List.length hq; rw [List.length_drop] at this; simp at this; omega
    | cons x r =>
      obtain ⟨s, e⟩ := x
      rw [hq] at c2
      refine ⟨s, e, r, rfl, List.drop_eq_nil_of_le (by omega), ?_⟩
      have p := can_pos c2
      show cmpI 0 (T.cons s e (ofL r)).val = -s
      generalize (T.cons s e (ofL r)).val = x at *
      rcases (show s = 1 ∨ s = -1 from c2.1.1) with rfl | rfl
      · exact cmp_lt (by omega)
      · exact cmp_gt (by omega)
  · exfalso
    apply hne
    apply toL_inj
    have e1 : t.toL.take j = t.toL := List.take_of_length_le (by omega)
    have e2 : u.toL.take j = u.toL := List.take_of_length_le (by omega)
    rw [← e1, h, e2]
  · have ej : j = u.toL.length := by omega
    refine .inl ?_
    have hd : u.toL.drop j = [] := List.drop_eq_nil_of_le (by omega)
    have c1 := can_drop ht u.toL.length
    rw [val_cut t j, val_cut u j, h, cmp_add, hd, ← ej] at *
    cases hq : t.toL.drop j with
    | nil => have := congrArg List.length hq; rw [List.length_drop] at this; simp at this; omega
    | cons x r =>
      obtain ⟨s, e⟩ := x
      rw [hq] at c1
      refine ⟨s, e, r, rfl, List.drop_eq_nil_of_le (by omega), ?_⟩
      have p := can_pos c1
      show cmpI (T.cons s e (ofL r)).val 0 = s
      generalize (T.cons s e (ofL r)).val = x at *
      rcases (show s = 1 ∨ s = -1 from c1.1.1) with rfl | rfl
      · exact cmp_gt (by omega)
      · exact cmp_lt (by omega)
end Sk

set_option Elab.async false
set_option linter.all false
set_option maxRecDepth 100000
set_option maxHeartbeats 2000000
namespace Sk
open PySem L2 Evl
/-! ### levels -/
def nextRow (row : List T) : List T := (row.map fun t => t.toL.map (·.2)).flatten
def levF : Nat → List T → List (List T)
  | 0, _ => []
  | k + 1, row => if row = [] then [] else row :: levF k (nextRow row)
def hrow (row : List T) : Nat := row.foldr (fun t m => max (t.height + 1) m) 0
def srow (row : List T) : Nat := (row.map T.size).sum
theorem height_le_of : ∀ {t : T} {k : Nat}, (∀ x ∈ t.toL, x.2.height + 1 ≤ k) → t.height ≤ k
  | .nil, _, _ => Nat.zero_le _
  | .cons s e r, k, h => by
    have h1 := h (s, e) List.mem_cons_self
    have h2 := height_le_of (t := r) fun x hx => h x (List.mem_cons_of_mem _ hx)
    show max (e.height + 1) r.height ≤ k
    have h1' : e.height + 1 ≤ k := h1
    omega
theorem hrow_le : ∀ {row : List T} {k : Nat}, hrow row ≤ k ↔ ∀ t ∈ row, t.height + 1 ≤ k
  | [], k => by simp [hrow]
  | t :: r, k => by
    have ih := hrow_le (row := r) (k := k)
    show max (t.height + 1) (hrow r) ≤ k ↔ _
    constructor
    · intro h x hx
      rcases List.mem_cons.mp hx with rfl | hx
      · omega
      · exact ih.mp (by omega) x hx
    · intro h
      have h1 := h t List.mem_cons_self
      have h2 := ih.mpr fun x hx => h x (List.mem_cons_of_mem _ hx)
      omega
theorem mem_next {row : List T} {e : T} : e ∈ nextRow row ↔ ∃ t ∈ row, ∃ x ∈ t.toL, x.2 = e := by
  unfold nextRow
  rw [List.mem_flatten]
  constructor
  · rintro ⟨l, hl, he⟩
    obtain ⟨t, ht, rfl⟩ := List.mem_map.mp hl
    obtain ⟨x, hx, rfl⟩ := List.mem_map.mp he
    exact ⟨t, ht, x, hx, rfl⟩
  · rintro ⟨t, ht, x, hx, rfl⟩
    exact ⟨_, List.mem_map.mpr ⟨t, ht, rfl⟩, List.mem_map.mpr ⟨x, hx, rfl⟩⟩
theorem hrow_next {row : List T} {k : Nat} : hrow row ≤ k + 1 ↔ hrow (nextRow row) ≤ k := by
  rw [hrow_le, hrow_le]
  constructor
  · intro h e he
    obtain ⟨t, ht, x, hx, rfl⟩ := mem_next.mp he
    have := h t ht
    have := T.height_mem hx
    omega
  · intro h t ht
    have : t.height ≤ k := height_le_of fun x hx => h x.2 (mem_next.mpr ⟨t, ht, x, hx, rfl⟩)
    omega
theorem levF_len : ∀ {k : Nat} {row : List T}, hrow row ≤ k → (levF k row).length = hrow row
  | 0, row, h => by show 0 = _; omega
  | k + 1, row, h => by
    by_cases hr : row = []
    · subst hr; rfl
    · unfold levF
      rw [if_neg hr, List.length_cons, levF_len (hrow_next.mp h)]
      have h1 : 1 ≤ hrow row := by
        cases row with
        | nil => exact absurd rfl hr
        | cons t r => show 1 ≤ max (t.height + 1) _; omega
      have h2 := hrow_next (row := row) (k := hrow (nextRow row)) |>.mpr (Nat.le_refl _)
      have h3 := hrow_next (row := row) (k := hrow row - 1) |>.mp (by omega)
      omega
theorem size_toL : ∀ t : T, t.size = 1 + (t.toL.map fun x => x.2.size).sum
  | .nil => rfl
  | .cons s e r => by
    show e.size + r.size = 1 + ((s, e).2.size :: r.toL.map fun x => x.2.size).sum
    rw [List.sum_cons, size_toL r]
    show e.size + _ = 1 + (e.size + _)
    omega
theorem srow_next : ∀ row : List T, srow row = row.length + srow (nextRow row)
  | [] => rfl
  | t :: r => by
    have ih := srow_next r
    show (t.size :: r.map T.size).sum = (r.length + 1) + srow (nextRow (t :: r))
    have e : srow (nextRow (t :: r)) = (t.toL.map fun x => x.2.size).sum + srow (nextRow r) := by
      show (List.map T.size (t.toL.map (·.2) ++ nextRow r)).sum = _
      rw [List.map_append, List.sum_append, List.map_map] <;> rfl
    rw [List.sum_cons, e, size_toL t]
    have : (r.map T.size).sum = srow r := rfl
    omega
theorem levF_sum : ∀ {k : Nat} {row : List T}, hrow row ≤ k → ((levF k row).map List.length).sum = srow row
  | 0, row, h => by
    have : row = [] := by
      cases row with
      | nil => rfl
      | cons t r => have : max (t.height + 1) (hrow r) ≤ 0 := h; omega
    subst this; rfl
  | k + 1, row, h => by
    by_cases hr : row = []
    · subst hr; rfl
    · unfold levF
      rw [if_neg hr, List.map_cons, List.sum_cons, levF_sum (hrow_next.mp h), ← srow_next]
theorem hrow_one (t : T) : hrow [t] = t.height + 1 := by show max (t.height + 1) 0 = _; omega
theorem srow_one (t : T) : srow [t] = t.size := by show (t.size + 0 : Nat) = t.size; omega
/-- a number that stands for t -/
def NumI (K : PySem.W.Frag) (t : T) : VP := fun v H => NumV K H v t
theorem numI {K : PySem.W.Frag} (t : T) : MonoT (NumI K t) := numT
section
variable {K : PySem.W.Frag} {H : Hp} {x0 x1 x2 x3 x4 x5 : Option V}
theorem take_snoc {α : Type} {l : List α} {i : Nat} {a : α} (h : l[i]? = some a) : l.take (i + 1) = l.take i ++ [a] := by
  have hlt : i < l.length := (List.getElem?_eq_some_iff.mp h).1
  rw [List.take_succ, h] <;> rfl
/-- [exponent for item in row for _, exponent in item] -/
theorem er_next {row : List T} {a : Addr} {xs : List V} (hv : x2 = some (.ref a)) (hs : SqL K H a xs) (hit : ItemsR (NumI K) row xs H) (hz : (nextRow row).length < 100000) :
    ER (tLc2 (iList K (tVar 2)) (gName 3) tYes (iTup K (tVar 3)) (gTup K 2 (gCons (gName 4) (gCons (gName 5) gNil))) tYes (tVar 5) [3, 4, 5] [4, 5]) [x0, x1, x2, x3, x4, x5] H
      (fun v H2 => ∃ p ys, v = .ref p ∧ H p = none ∧ H2 p = some (.lst ys) ∧ ItemsR (NumI K) (nextRow row) ys H2) := by
  intro H1 e1 Q q
  subst hv
  refine ⟨_, rfl, a, rfl, ⟨xs, ex_l e1 hs⟩, fun D hD => ?_⟩
  -- behind i numbers: the exponents of the first i
  let Pv : List T → Hp → Prop := fun done H' => H1 D = none ∧ Ex H1 H' ∧ ∃ ys, H' D = some (.lst ys) ∧ ItemsR (NumI K) done ys H'
  refine ⟨fun i m H' => m = xs.length - i ∧ i ≤ xs.length ∧ Pv (nextRow (row.take i)) H', ⟨xs.length, rfl, Nat.zero_le _, hD, Ex.new hD, [], upd_same, .nil⟩, ?_⟩
  rintro i m H' ⟨rfl, hi, p⟩
  obtain ⟨_, e2, ys, hy, hys⟩ := _root_.id p
  have hsq : SqL K H' a xs := ex_l (e1.trans e2) hs
  by_cases hlt : i < xs.length
  · refine .inr ⟨⟨xs, xs[i], hsq, by simp [hlt]⟩, Pv (nextRow (row.take (i + 1))), fun H'' p' => ⟨xs.length - (i + 1), by omega, rfl, hlt, p'⟩, fun x H'' y => ?_⟩
    obtain ⟨rfl, y⟩ := y
    have hx := y xs hsq
    obtain ⟨t, ht, hn⟩ := hit.of_at hx
    obtain ⟨b, zs, rfl, hb, htm⟩ := NumV.out hn
    have hzs := items_terms htm
    have hnx : nextRow (row.take (i + 1)) = nextRow (row.take i) ++ t.toL.map (·.2) := by
      rw [take_snoc ht]
      unfold nextRow
      rw [List.map_append, List.flatten_append] <;> simp
    refine ⟨rfl, ?_⟩
    refine ⟨_, rfl, b, rfl, ⟨zs, ex_t (e1.trans e2) hb⟩, ?_⟩
    refine ⟨fun j k H3 => k = zs.length - j ∧ j ≤ zs.length ∧ Pv (nextRow (row.take i) ++ (t.toL.take j).map (·.2)) H3, ⟨zs.length, rfl, Nat.zero_le _, by simpa using p⟩, ?_⟩
    rintro j k H3 ⟨rfl, hj, p3⟩
    obtain ⟨_, e3, us, hu, hus⟩ := _root_.id p3
    have hb3 : SqT K H3 b zs := ex_t (e1.trans e3) hb
    by_cases hjt : j < zs.length
    · refine .inr ⟨⟨zs, zs[j], hb3, by simp [hjt]⟩, Pv (nextRow (row.take i) ++ (t.toL.take (j + 1)).map (·.2)), fun H4 p' => ⟨zs.length - (j + 1), by omega, rfl, hjt, p'⟩, fun z H4 yz => ?_⟩
      obtain ⟨rfl, yz⟩ := yz
      obtain ⟨⟨s, e⟩, hse, q0, w, rfl, hq0, hw⟩ := hzs.of_at (yz zs hb3)
      refine g_pair (ex_t (e1.trans e3) hq0) ⟨rfl, ?_⟩
      unfold tYes
      refine iteT ?_
      refine ⟨w, rfl, us, hu, ?_, hD, Ex.mut e3 hD, us ++ [w], upd_same, ?_⟩
      · have hle : (nextRow (row.take i) ++ (t.toL.take j).map (·.2)).length ≤ (nextRow row).length := by
          have h1 : nextRow row = nextRow (row.take (i + 1)) ++ nextRow (row.drop (i + 1)) := by
            unfold nextRow
            rw [← List.flatten_append, ← List.map_append, List.take_append_drop]
          rw [h1, hnx, List.length_append, List.length_append, List.length_append, List.length_map, List.length_map, List.length_take]
          omega
        exact sz_lt (by rw [hus.1]; omega)
      · rw [take_snoc hse, List.map_append, ← List.append_assoc]
        have t4 : TEx H4 (upd H4 D (.lst (us ++ [w]))) := TEx.put hu
        exact (hus.tex numI t4).snoc (((NumV.ex hw (e1.trans e3)).tex t4 : NumV K _ w e))
    · have hj' : j = zs.length := by omega
      subst hj'
      refine .inl ⟨⟨zs, hb3, Nat.le_refl _⟩, ?_⟩
      show Pv _ H3
      rw [hnx]
      have : t.toL.take zs.length = t.toL := by rw [hzs.1]; exact List.take_length
      rw [this] at p3
      exact p3
  · have hi' : i = xs.length := by omega
    subst hi'
    have : row.take xs.length = row := by rw [hit.1]; exact List.take_length
    rw [this] at hys
    exact .inl ⟨⟨xs, hsq, Nat.le_refl _⟩, q _ H' e2 ⟨D, ys, rfl, fresh_back e1 hD, hy, hys⟩⟩
end
/-- a row: a list of numbers that stand for row, at another address than l -/
def RowI (K : PySem.W.Frag) (row : List T) : VP := fun v H => ∃ q zs, v = .ref q ∧ H q = some (.lst zs) ∧ ItemsR (NumI K) row zs H
def pLevels (K : PySem.W.Frag) : V → Hp → VP → Prop := fun x H R => ∃ t : T, NumV K H x t ∧ t.size < 100000 ∧ R = ListR (RowI K) (levF (t.height + 1) [t])
def sp_levels (K : PySem.W.Frag) : Sp := spF1 (pLevels K)
def t_levels (K : PySem.W.Frag) : TS := (tSeq (tAsg (tLst tNil) (gName 1))
    (tSeq (tAsg (tLst (tCons (tVar 0) tNil)) (gName 2))
    (tSeq (tWhile (tTruK K (tVar 2)) (tSeq (tDrop (tBM K "list" rAppend (tVar 1) (tCons (tVar 2) tNil)))
    (tAsg (tLc2 (iList K (tVar 2)) (gName 3) tYes (iTup K (tVar 3)) (gTup K 2 (gCons (gName 4) (gCons (gName 5) gNil))) tYes (tVar 5) [3, 4, 5] [4, 5]) (gName 2))))
    (tRet (tVar 1)))))
/-- the rows so far at l, the next row -/
def WLevels (K : PySem.W.Frag) (v : V) (t : T) (l : Addr) (H0 : Hp) (m : Nat) (σ : L2.St) (H : Hp) : Prop := ∃ (q : Addr) (z3 z4 z5 : Option V) (row : List T) (zs ys : List V) (acc : List (List T)),
  σ = [some v, some (.ref l), some (.ref q), z3, z4, z5] ∧ H0 l = none ∧ Ex H0 H ∧ q ≠ l ∧ H q = some (.lst zs) ∧ ItemsR (NumI K) row zs H ∧ H l = some (.lst ys) ∧ ItemsR (fun r v H => RowI K r v H ∧ v ≠ .ref l) acc ys H ∧
  acc ++ levF m row = levF (t.height + 1) [t] ∧ hrow row ≤ m ∧ srow row < 100000 ∧ acc.length + m ≤ t.height + 1
theorem height_le_size : ∀ t : T, t.height + 1 ≤ t.size
  | .nil => Nat.le_refl _
  | .cons s e r => by
    have h1 := height_le_size e
    have h2 := height_le_size r
    show max (e.height + 1) r.height + 1 ≤ e.size + r.size
    omega
theorem size_pos (t : T) : 1 ≤ t.size := Nat.le_trans (Nat.le_add_left 1 _) (height_le_size t)
theorem len_le_srow : ∀ row : List T, row.length ≤ srow row
  | [] => Nat.le_refl _
  | t :: r => by
    have := len_le_srow r
    have := size_pos t
    show r.length + 1 ≤ (t.size + (r.map T.size).sum : Nat)
    have : (r.map T.size).sum = srow r := rfl
    omega
theorem pure_levels {K : PySem.W.Frag} {vs : List V} {H : Hp} {Q : VK} {E : XK} (h : sp_levels K vs H Q E) : t_levels K { nx := fun _ H' => Q .non H', rt := Q } (start ["number", "rows", "row", "item", "_", "exponent"] vs) H := by
  obtain ⟨x, R, rfl, ⟨t, hx, hsz, rfl⟩, k⟩ := h
  have hhs := height_le_size t
  refine q_asgL (el_lst ea_nil (by decide)) fun l H1 hl e1 h1 => ?_
  refine q_asgL (el_lst (ea_cons (ev_var rfl) ea_nil) (by show 1 ≤ 100000; omega)) fun q H2 hq e2 h2 => ?_
  have hql : q ≠ l := fun e => by rw [e, h1] at hq; cases hq
  refine q_while' (WLevels K x t l H) (t.height + 1) ⟨q, none, none, none, [t], [x], [], [], rfl, hl, e1.trans e2, hql, h2, ?_, e2 l _ h1, .nil, rfl, by rw [hrow_one]; exact Nat.le_refl _, by rw [srow_one]; exact hsz, by simp⟩ ?_
  · exact ItemsR.snoc (l := []) (ys := []) .nil (NumV.ex hx (e1.trans e2))
  rintro m σ' H' ⟨q, z3, z4, z5, row, zs, ys, acc, rfl, hl0, e3, hql, h3, h4, h5, h6, h7, h8, h9, h10⟩
  refine ⟨!zs.isEmpty, et_truL (ev_var rfl) (sq_of h3), fun hb H4 e4 => ?_, fun hb H4 e4 => ?_⟩
  · have hrow : row ≠ [] := fun e => by
      subst e
      have : zs = [] := List.length_eq_zero_iff.mp h4.1
      subst this; cases hb
    have hm : ∃ m', m = m' + 1 := by
      cases m with
      | zero =>
        cases row with
        | nil => exact absurd rfl hrow
        | cons t r => have : max (t.height + 1) (Sk.hrow r) ≤ 0 := h8; omega
      | succ m' => exact ⟨m', rfl⟩
    obtain ⟨m', rfl⟩ := hm
    have hys : ys.length < 100000 := by rw [h6.1]; omega
    refine q_app (e4 l _ h5) (ev_var rfl) (ev_var rfl) hys fun H5 e5 => ?_
    have e45 : Ex H' H5 := e4.trans e5
    have hq6 : (upd H5 l (.lst (ys ++ [V.ref q]))) q = some (.lst zs) := by rw [upd_ne hql]; exact e45 q _ h3
    have t6 : TEx H' (upd H5 l (.lst (ys ++ [V.ref q]))) := (Ex.t e45).trans (TEx.put (e45 l _ h5))
    have hnx : srow (nextRow row) < 100000 := by have := srow_next row; omega
    refine s_asgR (er_next rfl (sq_of hq6) (h4.tex numI t6) (by have := len_le_srow (nextRow row); omega)) fun v H7 e7 ⟨p, us, hv, hp, hp7, hus⟩ => ?_
    subst hv
    have hpl : p ≠ l := fun e => by rw [e, upd_same] at hp; cases hp
    refine ⟨m', Nat.lt_succ_self _, p, _, _, _, nextRow row, us, ys ++ [V.ref q], acc ++ [row], rfl, hl0, ?_, hpl, hp7, hus, e7 l _ upd_same, ?_, ?_, hrow_next.mp h8, hnx, by rw [List.length_append]; show acc.length + 1 + m' ≤ _; omega⟩
    · exact (Ex.mut (e3.trans e45) hl0).trans e7
    · refine ItemsR.ex (R := fun r v H => RowI K r v H ∧ v ≠ .ref l) (fun r v Ha Hb e ⟨⟨q, zs, g1, g2, g3⟩, g4⟩ => ⟨⟨q, zs, g1, e q _ g2, g3.ex (fun a => (numI a).mono) e⟩, g4⟩) ?_ e7
      refine ItemsR.snoc ⟨h6.1, fun i y a g1 g2 => ?_⟩ ⟨⟨q, zs, rfl, hq6, h4.tex numI t6⟩, fun e => hql (V.ref.inj e)⟩
      obtain ⟨⟨q2, zs2, k1, k2, k3⟩, k4⟩ := h6.2 i y a g1 g2
      refine ⟨⟨q2, zs2, k1, ?_, k3.tex numI t6⟩, k4⟩
      rw [upd_ne (fun e => k4 (by rw [k1, e]))]
      exact e45 q2 _ k2
    · rw [← h7, List.append_assoc, show levF (m' + 1) row = row :: levF m' (nextRow row) from by rw [levF, if_neg hrow]]
      rfl
  · have hz : zs = [] := by
      cases zs with
      | nil => rfl
      | cons a b => cases hb
    subst hz
    have hr : row = [] := List.length_eq_zero_iff.mp (by rw [← h4.1]; rfl)
    subst hr
    have hlev : levF m ([] : List T) = [] := by cases m <;> rfl
    rw [hlev, List.append_nil] at h7
    subst h7
    refine s_ret (ev_var rfl) fun H5 e5 => k _ _ ((e3.trans e4).trans e5) ⟨l, ys, rfl, (e4.trans e5) l _ h5, ?_⟩
    exact (ItemsR.imp h6 fun a y _ h => h.1).ex (fun r v Ha Hb e ⟨q, zs, g1, g2, g3⟩ => ⟨q, zs, g1, e q _ g2, g3.ex (fun a => (numI a).mono) e⟩) (e4.trans e5)
end Sk

set_option Elab.async false
set_option linter.all false
set_option maxRecDepth 100000
set_option maxHeartbeats 2000000
namespace Sk
open PySem L2 Evl
section
variable {K : PySem.W.Frag} {σ : L2.St} {H : Hp} {te : TE}
/-- sum of a list that was just made -/
theorem ev_sum {l : List Int} (h : ER te σ H (fun v H2 => ∃ p ys, v = .ref p ∧ SqL K H2 p ys ∧ ItemsR IntI l ys H2)) : Ev (tCB (rSum K) (tCons te tNil)) σ H (.int l.sum) := fun H1 e Q q =>
  h H1 e _ fun v H2 e2 ⟨p, ys, hv, h1, h2⟩ => ⟨p, l, by rw [hv], by rw [← h2.ints]; exact h1, q H2 e2⟩
theorem ev_lenR {n : Nat} (h : ER te σ H (fun v H2 => ∃ p ys, v = .ref p ∧ (SqL K H2 p ys ∨ SqT K H2 p ys) ∧ ys.length = n)) : Ev (tCB (rLenS K) (tCons te tNil)) σ H (.int (n : Int)) := fun H1 e Q q =>
  h H1 e _ fun v H2 e2 ⟨p, ys, hv, h1, h2⟩ => ⟨p, ys, by rw [hv], h1, by rw [h2]; exact q H2 e2⟩
end
theorem rowI {K : PySem.W.Frag} (r : List T) : Mono (RowI K r) := fun v Ha Hb e ⟨q, zs, g1, g2, g3⟩ => ⟨q, zs, g1, e q _ g2, g3.ex (fun a => (numI a).mono) e⟩
theorem intI (n : Int) : MonoT (IntI n) := fun _ _ _ _ h => h
/-! ### size_of, height_of, is_allowed, allowed -/
def pSize (K : PySem.W.Frag) : V → Hp → VP → Prop := fun x H R => ∃ t : T, NumV K H x t ∧ t.size < 100000 ∧ R = fun v _ => v = .int (t.size : Int)
def sp_size_of (K : PySem.W.Frag) : Sp := spF1 (pSize K)
def t_size_of (K : PySem.W.Frag) : TS := (tRet (tCB (rSum K) (tCons (tLc (iList K (tCall (sp_levels K) [] E0 (tCons (tVar 0) tNil))) (gName 1) tYes (tCB (rLenS K) (tCons (tVar 1) tNil)) [1]) tNil)))
theorem er_levels {K : PySem.W.Frag} {σ : L2.St} {H : Hp} {x : V} {t : T} {i : Nat} (hv : σ[i]? = some (some x)) (hx : NumV K H x t) (hsz : t.size < 100000) : ER (tCall (sp_levels K) [] E0 (tCons (tVar i) tNil)) σ H (ListR (RowI K) (levF (t.height + 1) [t])) :=
  er_call1 (R1 := fun v H => NumV K H v t) (er_var hv fun H1 e1 => hx.ex e1) numT.mono fun v H1 e1 hv => ⟨t, hv, hsz, rfl⟩
theorem pure_size_of {K : PySem.W.Frag} {vs : List V} {H : Hp} {Q : VK} {E : XK} (h : sp_size_of K vs H Q E) : t_size_of K { nx := fun _ H' => Q .non H', rt := Q } (start ["number", "row"] vs) H := by
  obtain ⟨x, R, rfl, ⟨t, hx, hsz, rfl⟩, k⟩ := h
  have hlen := levF_len (k := t.height + 1) (row := [t]) (by rw [hrow_one]; exact Nat.le_refl _)
  have hsum := levF_sum (k := t.height + 1) (row := [t]) (by rw [hrow_one]; exact Nat.le_refl _)
  rw [hrow_one] at hlen
  rw [srow_one] at hsum
  have hhs := height_le_size t
  refine s_ret (ev_sum (l := (levF (t.height + 1) [t]).map fun r => (r.length : Int)) ?_) fun H1 e1 => k _ _ e1 ?_
  · refine (er_lcI (R1 := RowI K) (R2 := fun r => IntI (r.length : Int)) (l := levF (t.height + 1) [t]) ((er_levels rfl hx hsz).imp fun v H1 e ⟨p, ys, h1, h2, h3⟩ => ⟨p, ys, h1, sq_of h2, h3⟩) rowI (fun a => intI _) (by omega) ?_).imp fun v H1 e ⟨p, ys, h1, h2, h3, h4⟩ => ⟨p, ys, h1, sq_of h3, ⟨by rw [List.length_map]; exact h4.1, fun i y a g1 g2 => ?_⟩⟩
    · rintro i r x H1 hi ⟨q, zs, rfl, hq, hz⟩ e1 Qk kk
      refine ⟨rfl, ?_⟩
      refine ev_len (xs := zs) (ev_var rfl) (sq_of hq) H1 (Ex.refl _) _ fun H2 e2 => kk _ _ e2 ?_
      show V.int _ = V.int _
      rw [hz.1]
    · rw [List.getElem?_map] at g2
      cases hq : (levF (t.height + 1) [t])[i]? with
      | none => rw [hq] at g2; cases g2
      | some z => rw [hq] at g2; cases g2; exact h4.2 i y z g1 hq
  · show V.int _ = V.int _
    have e : ∀ l : List (List T), (l.map fun r => (r.length : Int)).sum = ((l.map List.length).sum : Nat) := by
      intro l
      induction l with
      | nil => rfl
      | cons a r ih => rw [List.map_cons, List.map_cons, List.sum_cons, List.sum_cons, ih]; omega
    rw [e, hsum]
def pHeight (K : PySem.W.Frag) : V → Hp → VP → Prop := fun x H R => ∃ t : T, NumV K H x t ∧ t.size < 100000 ∧ R = fun v _ => v = .int (t.height : Int)
def sp_height_of (K : PySem.W.Frag) : Sp := spF1 (pHeight K)
def t_height_of (K : PySem.W.Frag) : TS := (tRet (tOp xSub (tCB (rLenS K) (tCons (tCall (sp_levels K) [] E0 (tCons (tVar 0) tNil)) tNil)) (tC (.int 1))))
theorem pure_height_of {K : PySem.W.Frag} {vs : List V} {H : Hp} {Q : VK} {E : XK} (h : sp_height_of K vs H Q E) : t_height_of K { nx := fun _ H' => Q .non H', rt := Q } (start ["number"] vs) H := by
  obtain ⟨x, R, rfl, ⟨t, hx, hsz, rfl⟩, k⟩ := h
  have hlen := levF_len (k := t.height + 1) (row := [t]) (by rw [hrow_one]; exact Nat.le_refl _)
  rw [hrow_one] at hlen
  refine s_ret (ev_sub (ev_lenR (n := t.height + 1) ((er_levels rfl hx hsz).imp fun v H1 e ⟨p, ys, h1, h2, h3⟩ => ⟨p, ys, h1, .inl (sq_of h2), h3.1.trans hlen⟩)) ev_c) fun H1 e1 => k _ _ e1 ?_
  show V.int _ = V.int _
  congr 1
  omega
def pIsAllowed (K : PySem.W.Frag) : V → Hp → VP → Prop := fun x H R => ∃ t : T, NumV K H x t ∧ t.size < 100000 ∧ R = fun v _ => v = .bl (decide t.fits)
def sp_is_allowed (K : PySem.W.Frag) : Sp := spF1 (pIsAllowed K)
def t_is_allowed (K : PySem.W.Frag) : TS := (tSeq (tAsg (tCall (sp_levels K) [] E0 (tCons (tVar 0) tNil)) (gName 1))
    (tRet (tAndV (tOp xLe (tCB (rSum K) (tCons (tLc (iList K (tVar 1)) (gName 2) tYes (tCB (rLenS K) (tCons (tVar 2) tNil)) [2]) tNil)) (tC (.int 300))) (tOp xLe (tCB (rLenS K) (tCons (tVar 1) tNil)) (tOp xAdd (tC (.int 40)) (tC (.int 1)))))))
theorem lens_cast (l : List (List T)) : (l.map fun r => (r.length : Int)).sum = ((l.map List.length).sum : Nat) := by
  induction l with
  | nil => rfl
  | cons a r ih => rw [List.map_cons, List.map_cons, List.sum_cons, List.sum_cons, ih]; omega
theorem pure_is_allowed {K : PySem.W.Frag} {vs : List V} {H : Hp} {Q : VK} {E : XK} (h : sp_is_allowed K vs H Q E) : t_is_allowed K { nx := fun _ H' => Q .non H', rt := Q } (start ["number", "rows", "row"] vs) H := by
  obtain ⟨x, R, rfl, ⟨t, hx, hsz, rfl⟩, k⟩ := h
  have hlen := levF_len (k := t.height + 1) (row := [t]) (by rw [hrow_one]; exact Nat.le_refl _)
  have hsum := levF_sum (k := t.height + 1) (row := [t]) (by rw [hrow_one]; exact Nat.le_refl _)
  rw [hrow_one] at hlen
  rw [srow_one] at hsum
  have hhs := height_le_size t
  refine q_asgR (er_levels rfl hx hsz) fun v H1 e1 ⟨p, ys, hv, h2, h3⟩ => ?_
  subst hv
  refine s_ret (ev_andV (a := decide ((t.size : Int) ≤ 300)) (b := decide (((t.height + 1 : Nat) : Int) ≤ 40 + 1)) (ev_le (ev_is (ev_sum (l := (levF (t.height + 1) [t]).map fun r => (r.length : Int)) ?_) (by rw [lens_cast, hsum])) ev_c) fun _ => ev_le (ev_is (ev_lenL (ev_var rfl) (sq_of h2)) (by rw [h3.1, hlen])) (ev_add ev_c ev_c)) fun H2 e2 => k _ _ (e1.trans e2) ?_
  · refine (er_lcI (R1 := RowI K) (R2 := fun r => IntI (r.length : Int)) (l := levF (t.height + 1) [t]) (er_ev (ev_var rfl) fun H2 e2 => ⟨p, ys, rfl, sq_of (e2 p _ h2), h3.ex rowI e2⟩) rowI (fun a => intI _) (by omega) ?_).imp fun v H1 e ⟨p, ys, h1, h2, h3, h4⟩ => ⟨p, ys, h1, sq_of h3, ⟨by rw [List.length_map]; exact h4.1, fun i y a g1 g2 => ?_⟩⟩
    · rintro i r x H1 hi ⟨q, zs, rfl, hq, hz⟩ e1 Qk kk
      refine ⟨rfl, ?_⟩
      refine ev_len (xs := zs) (ev_var rfl) (sq_of hq) H1 (Ex.refl _) _ fun H2 e2 => kk _ _ e2 ?_
      show V.int _ = V.int _
      rw [hz.1]
    · rw [List.getElem?_map] at g2
      cases hq : (levF (t.height + 1) [t])[i]? with
      | none => rw [hq] at g2; cases g2
      | some z => rw [hq] at g2; cases g2; exact h4.2 i y z g1 hq
  · show V.bl _ = V.bl _
    congr 1
    rw [Bool.eq_iff_iff, Bool.and_eq_true, decide_eq_true_eq, decide_eq_true_eq, decide_eq_true_eq]
    unfold T.fits
    omega
def pAllowed (K : PySem.W.Frag) (CL : Addr) : V → Hp → VP → WP → Prop := fun x H R W => ∃ t : T, NumV K H x t ∧ t.size < 100000 ∧ (t.fits → ∀ v H', NumV K H' v t → R v H') ∧ (¬ t.fits → W CL)
def sp_allowed (K : PySem.W.Frag) (CL : Addr) : Sp := spX1 K (pAllowed K CL)
def t_allowed (K : PySem.W.Frag) (a_TooLarge : Addr) (E : XK) : TS := (tSeq (tIfS (tNot (tB (tCall (sp_is_allowed K) [] E0 (tCons (tVar 0) tNil)))) (tRaise K E a_TooLarge) tNext)
    (tRet (tVar 0)))
theorem pure_allowed {K : PySem.W.Frag} {CL : Addr} {vs : List V} {H : Hp} {Q : VK} {E : XK} (h : sp_allowed K CL vs H Q E) : t_allowed K CL E { nx := fun _ H' => Q .non H', rt := Q } (start ["number"] vs) H := by
  obtain ⟨x, R, W, rfl, ⟨t, hx, hsz, hR, hW⟩, k, kE⟩ := h
  refine q_when (b := !decide t.fits) (et_not (et_B (ev_er (er_call1 (R1 := fun v H => NumV K H v t) (er_var rfl fun H1 e1 => hx.ex e1) numT.mono fun v H1 e1 hv => ⟨t, hv, hsz, rfl⟩)))) (fun hc H1 e1 => ?_) (fun hc H1 e1 => ?_)
  · exact (fun Hz ez => kE CL Hz (e1.trans ez) (hW (by simpa using hc)))
  · exact s_ret (ev_var rfl) fun H2 e2 => k _ _ (e1.trans e2) (hR (by simpa using hc) _ _ (hx.ex (e1.trans e2)))
/-! ### sign_of, of_int -/
def pSign (K : PySem.W.Frag) : V → Hp → VP → Prop := fun x H R => ∃ t : T, NumV K H x t ∧ R = fun v _ => v = .int t.sgn
def sp_sign_of (K : PySem.W.Frag) : Sp := spF1 (pSign K)
def t_sign_of (K : PySem.W.Frag) : TS := (tRet (tIf (tTruK K (tVar 0)) (tOp (rIxT K) (tOp (rIxT K) (tVar 0) (tC (.int 0))) (tC (.int 0))) (tC (.int 0))))
theorem pure_sign_of {K : PySem.W.Frag} {vs : List V} {H : Hp} {Q : VK} {E : XK} (h : sp_sign_of K vs H Q E) : t_sign_of K { nx := fun _ H' => Q .non H', rt := Q } (start ["number"] vs) H := by
  obtain ⟨x, R, rfl, ⟨t, hx, rfl⟩, k⟩ := h
  obtain ⟨a, xs, rfl, hs, ht⟩ := hx.out
  refine s_ret (ev_if (et_truT (ev_var rfl) hs) (fun hc => ?_) (fun hc => ?_)) fun H1 e1 => k _ _ e1 rfl
  · cases t with
    | nil => rw [ht.nil_out] at hc; cases hc
    | cons s e r =>
      obtain ⟨p, w, ys, rfl, h1, h2, h3⟩ := ht.cons_out
      exact ev_atT (ev_atT (ev_var rfl) ev_c hs (at_of (j := 0) rfl rfl)) ev_c h1 (at_of (j := 0) rfl rfl)
  · cases t with
    | nil => exact ev_c
    | cons s e r =>
      obtain ⟨p, w, ys, rfl, h1, h2, h3⟩ := ht.cons_out
      cases hc
/-- of_int: the number, TooLarge if it is not allowed, NotAllowed if the integer is too long -/
def pOfInt (K : PySem.W.Frag) (CN CL : Addr) : V → Hp → VP → WP → Prop := fun x H R W => ∃ n : Int, x = .int n ∧
  (n.natAbs < 2 ^ 2900 → (toT n).size < 100000 ∧ ((toT n).fits → ∀ v H', NumV K H' v (toT n) → R v H') ∧ (¬ (toT n).fits → W CL)) ∧ (¬ n.natAbs < 2 ^ 2900 → W CN)
def sp_of_int (K : PySem.W.Frag) (CN CL : Addr) : Sp := spX1 K (pOfInt K CN CL)
def t_of_int (K : PySem.W.Frag) (a_NotAllowed : Addr) (a_TooLarge : Addr) (E : XK) : TS := (tSeq (tIfS (tTest (tOp xGt (tBits (tVar 0)) (tC (.int 2900)))) (tRaise K E a_NotAllowed) tNext)
    (tRet (tCall (sp_allowed K a_TooLarge) [] E (tCons (tCall (sp_bare_number K 7) [] E0 (tCons (tVar 0) tNil)) tNil))))
theorem intBits_le_iff (n : Int) (k : Nat) : Builtin.Int.intBits n ≤ k ↔ n.natAbs < 2 ^ k := by
  unfold Builtin.Int.intBits
  by_cases h : n = 0
  · subst h; simp [Nat.two_pow_pos]
  · rw [if_neg (by simpa using h)]
    have h1 : n.natAbs ≠ 0 := by omega
    constructor
    · intro h2
      exact (Nat.log2_lt h1).mp (by omega)
    · intro h2
      have := (Nat.log2_lt h1).mpr h2
      omega
theorem pure_of_int {K : PySem.W.Frag} {CN CL : Addr} {vs : List V} {H : Hp} {Q : VK} {E : XK} (h : sp_of_int K CN CL vs H Q E) : t_of_int K CN CL E { nx := fun _ H' => Q .non H', rt := Q } (start ["value"] vs) H := by
  obtain ⟨x, R, W, rfl, ⟨n, rfl, h1, h2⟩, k, kE⟩ := h
  have hbits := intBits_le_iff n 2900
  refine q_when (b := decide ((2900 : Int) < ((Builtin.Int.intBits n : Nat) : Int))) (et_test (ev_gt (ev_bits (ev_var rfl)) ev_c)) (fun hc H1 e1 => ?_) (fun hc H1 e1 => ?_)
  · have hc' := of_decide_eq_true hc
    exact (fun Hz ez => kE CN Hz (e1.trans ez) (h2 fun q => by have := hbits.mpr q; omega))
  · have hc' := of_decide_eq_false hc
    have hn : n.natAbs < 2 ^ 2900 := hbits.mp (by omega)
    obtain ⟨g1, g2, g3⟩ := h1 hn
    have hcb : n.natAbs < Cb 7 := lt_Cb7 hn (by decide)
    exact x_call1 (R1 := fun v H => NumV K H v (toT n)) (er_call1 (R1 := fun v _ => v = .int n) (er_is (ev_var rfl)) monoC fun v H2 e2 hv => ⟨n, hv, hcb, Nat.le_refl _, rfl⟩) numT.mono _ fun v H2 e2 hn2 =>
      ⟨R, W, ⟨toT n, hn2, g1, g2, g3⟩, fun w H3 e3 hw => k w H3 ((e1.trans e2).trans e3) hw, fun C H3 e3 hw => kE C H3 ((e1.trans e2).trans e3) hw⟩
end Sk

set_option Elab.async false
set_option linter.all false
set_option maxRecDepth 100000
set_option maxHeartbeats 2000000
namespace Sk
open PySem L2 Evl
def rEqN (K : PySem.W.Frag) : R2 := fun x y H Q => ∃ d e, Dp K H x d ∧ Dp K H y e ∧ d.canLay0 = true ∧ e.canLay0 = true ∧ d.depth ≤ 100 ∧ Q (.bl (d.eqv e)) H
theorem op_eqN {X : Cx} (hu : X.A.units + 150 < cLine) : OpR X (compareOp .Eq) (rEqN X.K) := fun pins s σ H x y v u Q I r1 r2 ⟨d, e, h1, h2, h3, h4, h5, q⟩ => by
  obtain ⟨as, ra⟩ := Dp.reads I d x v h1 r1
  obtain ⟨bs, rb⟩ := Dp.reads I e y u h2 r2
  exact SeqAt.compareEq_reads ra rb h3 h4 (by have := Nat.min_le_left d.depth e.depth; omega) ⟨.bl _, H, I, rfl, q⟩
def rNeN (K : PySem.W.Frag) : R2 := fun x y H Q => ∃ d e, Dp K H x d ∧ Dp K H y e ∧ d.canLay0 = true ∧ e.canLay0 = true ∧ d.depth ≤ 100 ∧ Q (.bl (!d.eqv e)) H
theorem op_neN {X : Cx} (hu : X.A.units + 150 < cLine) : OpR X (compareOp .NotEq) (rNeN X.K) := fun pins s σ H x y v u Q I r1 r2 ⟨d, e, h1, h2, h3, h4, h5, q⟩ => by
  obtain ⟨as, ra⟩ := Dp.reads I d x v h1 r1
  obtain ⟨bs, rb⟩ := Dp.reads I e y u h2 r2
  exact SeqAt.compareNe_reads ra rb h3 h4 (by have := Nat.min_le_left d.depth e.depth; omega) ⟨.bl _, H, I, rfl, q⟩

section
variable {K : PySem.W.Frag} {σ : L2.St} {H : Hp} {te tf : TE} {t u : T}
theorem ev_eqN (h : ER te σ H (fun v H2 => NumV K H2 v t)) (h' : ER tf σ H (fun v H2 => NumV K H2 v u)) (hh : t.height ≤ 48) : Ev (tOp (rEqN K) te tf) σ H (.bl (decide (t = u))) := fun H1 e Q q =>
  h H1 e _ fun v H2 e2 r1 => h' H2 (e.trans e2) _ fun w H3 e3 r2 => ⟨t.data, u.data, r1.ex e3, r2, data_lay t, data_lay u, by have := data_depth t; omega, by rw [data_eqv]; exact q H3 (e2.trans e3)⟩
theorem ev_neN (h : ER te σ H (fun v H2 => NumV K H2 v t)) (h' : ER tf σ H (fun v H2 => NumV K H2 v u)) (hh : t.height ≤ 48) : Ev (tOp (rNeN K) te tf) σ H (.bl (!decide (t = u))) := fun H1 e Q q =>
  h H1 e _ fun v H2 e2 r1 => h' H2 (e.trans e2) _ fun w H3 e3 r2 => ⟨t.data, u.data, r1.ex e3, r2, data_lay t, data_lay u, by have := data_depth t; omega, by rw [data_eqv]; exact q H3 (e2.trans e3)⟩
end
end Sk

set_option Elab.async false
set_option linter.all false
set_option maxRecDepth 100000
set_option maxHeartbeats 2000000
namespace Sk
open PySem L2 Evl
/-! ### powers of two by a modulus -/
/-- n different remainders, the next one is that of 2 ** l -/
def IsRow (m n l : Nat) : Prop := l < n ∧ 2 ^ n % m = 2 ^ l % m ∧ ∀ i j, i < j → j < n → 2 ^ i % m ≠ 2 ^ j % m
theorem distinct_le {m n : Nat} (hm : 0 < m) (h : ∀ i j, i < j → j < n → 2 ^ i % m ≠ 2 ^ j % m) : n ≤ m := by
  have nd : ((List.range n).map fun i => 2 ^ i % m).Nodup := by
    rw [List.nodup_iff_pairwise_ne, List.pairwise_map]
    refine List.Pairwise.imp_of_mem (R := fun a b => a < b) (fun {a b} ha hb hab => h a b hab (List.mem_range.mp hb)) List.pairwise_lt_range
  have := nd.length_le_of_subset (l₂ := List.range m) (fun x hx => by
    obtain ⟨i, _, rfl⟩ := List.mem_map.mp hx
    exact List.mem_range.mpr (Nat.mod_lt _ hm))
  simpa using this
theorem IsRow.le {m n l : Nat} (hm : 0 < m) (h : IsRow m n l) : n ≤ m := distinct_le hm h.2.2
theorem IsRow.uniq {m n l n' l' : Nat} (h : IsRow m n l) (h' : IsRow m n' l') : n = n' ∧ l = l' := by
  have hn : n = n' := by
    rcases Nat.lt_trichotomy n n' with q | q | q
    · exact absurd h.2.1.symm (h'.2.2 l n h.1 q)
    · exact q
    · exact absurd h'.2.1.symm (h.2.2 l' n' h'.1 q)
  subst hn
  refine ⟨rfl, ?_⟩
  have e : 2 ^ l % m = 2 ^ l' % m := h.2.1.symm.trans h'.2.1
  rcases Nat.lt_trichotomy l l' with q | q | q
  · exact absurd e (h.2.2 l l' q h'.1)
  · exact q
  · exact absurd e.symm (h.2.2 l' l q h.1)
theorem pow_mod_succ (i m : Nat) : 2 * (2 ^ i % m) % m = 2 ^ (i + 1) % m := by
  rw [Nat.pow_succ, Nat.mul_comm (2 ^ i) 2, Nat.mul_mod, Nat.mod_mod, ← Nat.mul_mod]
/-- the cycle's length is below the modulus -/
theorem IsRow.short {m n l : Nat} (hm : 1 < m) (h : IsRow m n l) : n - l < m := by
  have hle := h.le (by omega)
  rcases Nat.eq_zero_or_pos l with hl | hl
  · subst hl
    -- no remainder is 0: from 0 no way leads to 1
    have h1 : 2 ^ 0 % m = 1 := by rw [Nat.pow_zero]; exact Nat.mod_eq_of_lt hm
    have nz : ∀ i, i ≤ n → 2 ^ i % m ≠ 0 := by
      intro i hi hz
      have : ∀ k, 2 ^ (i + k) % m = 0 := fun k => by rw [Nat.pow_add, Nat.mul_mod, hz, Nat.zero_mul, Nat.zero_mod]
      have h2 := this (n - i)
      rw [show i + (n - i) = n by omega, h.2.1, h1] at h2
      omega
    have nd : ((List.range n).map fun i => 2 ^ i % m).Nodup := by
      rw [List.nodup_iff_pairwise_ne, List.pairwise_map]
      refine List.Pairwise.imp_of_mem (R := fun a b => a < b) (fun {a b} ha hb hab => h.2.2 a b hab (List.mem_range.mp hb)) List.pairwise_lt_range
    have := nd.length_le_of_subset (l₂ := (List.range (m - 1)).map (· + 1)) (fun x hx => by
      obtain ⟨i, hi, rfl⟩ := List.mem_map.mp hx
      have h3 := nz i (Nat.le_of_lt (List.mem_range.mp hi))
      have h4 := Nat.mod_lt (2 ^ i) (show 0 < m by omega)
      exact List.mem_map.mpr ⟨2 ^ i % m - 1, List.mem_range.mpr (by omega), by omega⟩)
    rw [List.length_map, List.length_map, List.length_range, List.length_range] at this
    omega
  · omega
/-- behind the lead the remainders come again -/
theorem IsRow.again {m n l : Nat} (h : IsRow m n l) (k : Nat) : ∀ i, l ≤ i → 2 ^ (i + k * (n - l)) % m = 2 ^ i % m := by
  have one : ∀ i, l ≤ i → 2 ^ (i + (n - l)) % m = 2 ^ i % m := fun i hi => by
    have e1 : i + (n - l) = n + (i - l) := by have := h.1; omega
    have e2 : i = l + (i - l) := by omega
    rw [e1, Nat.pow_add, Nat.mul_mod, h.2.1, ← Nat.mul_mod, ← Nat.pow_add, ← e2]
  induction k with
  | zero => intro i _; rw [Nat.zero_mul, Nat.add_zero]
  | succ k ih =>
    intro i hi
    rw [Nat.succ_mul, ← Nat.add_assoc, one _ (by omega), ih i hi]
theorem IsRow.turn {m n l : Nat} (h : IsRow m n l) {e : Nat} (he : l ≤ e) : 2 ^ e % m = 2 ^ (l + (e - l) % (n - l)) % m := by
  have h1 := h.again ((e - l) / (n - l)) (l + (e - l) % (n - l)) (Nat.le_add_right _ _)
  rw [← h1]
  have h2 := Nat.mod_add_div (e - l) (n - l)
  rw [Nat.mul_comm] at h2
  congr 2
  omega
def pows (m n : Nat) : List Int := (List.range n).map fun i => ((2 ^ i % m : Nat) : Int)
section
variable {K : PySem.W.Frag} {σ : L2.St} {H : Hp} {ty td tx : TE} {D : Ends} {tz : TS}
theorem ev_din {a : Addr} {kvs : List (Key × V)} {k : Int} (h1 : Ev ty σ H (.int k)) (h2 : Ev td σ H (.ref a)) (hd : H a = some (.dK kvs)) : Ev (tDIn ty td) σ H (.bl (valV kvs (Sum.inl k)).isSome) := fun H1 e Q q =>
  h1 H1 e _ fun H2 e2 => h2 H2 (e.trans e2) _ fun H3 e3 => ⟨a, _, rfl, DGet.k (k := Sum.inl k) (((e.trans e2).trans e3) a _ hd), q H3 (e2.trans e3)⟩
theorem ev_dnotin {a : Addr} {kvs : List (Key × V)} {k : Int} (h1 : Ev ty σ H (.int k)) (h2 : Ev td σ H (.ref a)) (hd : H a = some (.dK kvs)) : Ev (tDNotIn ty td) σ H (.bl (!(valV kvs (Sum.inl k)).isSome)) := fun H1 e Q q =>
  h1 H1 e _ fun H2 e2 => h2 H2 (e.trans e2) _ fun H3 e3 => ⟨a, _, rfl, DGet.k (k := Sum.inl k) (((e.trans e2).trans e3) a _ hd), q H3 (e2.trans e3)⟩
theorem ev_dget {a : Addr} {kvs : List (Key × V)} {k : Int} {v : V} (h2 : Ev td σ H (.ref a)) (h1 : Ev ty σ H (.int k)) (hd : H a = some (.dK kvs)) (hv : valV kvs (Sum.inl k) = some v) : Ev (tDGet td ty) σ H v := fun H1 e Q q =>
  h2 H1 e _ fun H2 e2 => h1 H2 (e.trans e2) _ fun H3 e3 => ⟨a, v, rfl, by rw [← hv]; exact DGet.k (k := Sum.inl k) (((e.trans e2).trans e3) a _ hd), q H3 (e2.trans e3)⟩
/-- d[k] = v -/
theorem q_dput {a : Addr} {kvs : List (Key × V)} {k : Int} {v : V} (hd : H a = some (.dK kvs)) (hv : Ev tx σ H v) (ho : Ev td σ H (.ref a)) (hi : Ev ty σ H (.int k)) (hz : kvs.length < 100000) (n : ∀ H1, Ex H H1 → tz D σ (upd H1 a (.dK (putK kvs (Sum.inl k) v)))) : tSeq (sDPut td ty tx) tz D σ H :=
  hv H (Ex.refl H) _ fun H1 e1 => ho H1 e1 _ fun H2 e2 => hi H2 (e1.trans e2) _ fun H3 e3 => ⟨a, _, rfl, DPut.k (k := Sum.inl k) (((e1.trans e2).trans e3) a _ hd) (sz_lt hz), n H3 ((e1.trans e2).trans e3)⟩
theorem s_asgD {i : Nat} (k : ∀ d H1, H d = none → Ex H H1 → H1 d = some (.dK []) → D.nx (σ.set i (some (.ref d))) H1) : tAsg tDNewK (gName i) D σ H := fun d hd => k d _ hd (Ex.new hd) upd_same
theorem q_asgD {i : Nat} (k : ∀ d H1, H d = none → Ex H H1 → H1 d = some (.dK []) → tz D (σ.set i (some (.ref d))) H1) : tSeq (tAsg tDNewK (gName i)) tz D σ H := s_asgD (D := { D with nx := tz D }) k
theorem TEx.putD {d : Addr} {kvs kvs' : List (Key × V)} (h : H d = some (.dK kvs)) : TEx H (upd H d (.dK kvs')) := fun a o e c => by
  by_cases hb : a = d
  · subst hb; rw [h] at e; cases e; exact c.elim
  · rw [upd_ne hb]; exact e
end
/-- what the dict of places says behind i powers -/
structure Plc (m i : Nat) (kvs : List (Key × V)) : Prop where
  len : kvs.length = i
  has : ∀ j, j < i → valV kvs (Sum.inl (((2 ^ j % m : Nat) : Int))) = some (.int (j : Int))
  only : ∀ k v, valV kvs (Sum.inl k) = some v → ∃ j, j < i ∧ k = ((2 ^ j % m : Nat) : Int)
  dist : ∀ a b, a < b → b < i → 2 ^ a % m ≠ 2 ^ b % m
theorem Plc.zero (m : Nat) : Plc m 0 [] := ⟨rfl, fun j h => absurd h (Nat.not_lt_zero _), fun k v h => (by cases h), fun a b _ h => absurd h (Nat.not_lt_zero _)⟩
theorem Plc.next {m i : Nat} {kvs : List (Key × V)} (h : Plc m i kvs) (hn : valV kvs (Sum.inl (((2 ^ i % m : Nat) : Int))) = none) : Plc m (i + 1) (putK kvs (Sum.inl (((2 ^ i % m : Nat) : Int))) (.int (i : Int))) := by
  have hd : ∀ a, a < i → 2 ^ a % m ≠ 2 ^ i % m := fun a ha e => by
    have := h.has a ha
    rw [e, hn] at this
    cases this
  refine ⟨by rw [putK_new _ hn, List.length_append, h.len]; rfl, fun j hj => ?_, fun k v hk => ?_, fun a b hab hb => ?_⟩
  · rw [valV_put]
    by_cases e : j = i
    · subst e; rw [if_pos rfl]
    · have hj' : j < i := by omega
      rw [if_neg (fun q => hd j hj' (by have := Sum.inl.inj q; exact_mod_cast this))]
      exact h.has j hj'
  · rw [valV_put] at hk
    split at hk
    · rename_i q
      exact ⟨i, Nat.lt_succ_self _, Sum.inl.inj q⟩
    · obtain ⟨j, h1, h2⟩ := h.only k v hk
      exact ⟨j, Nat.lt_succ_of_lt h1, h2⟩
  · rcases Nat.lt_or_eq_of_le (Nat.le_of_lt_succ hb) with q | q
    · exact h.dist a b hab q
    · subst q; exact hd a hab
theorem Plc.done {m i : Nat} {kvs : List (Key × V)} (h : Plc m i kvs) (hs : (valV kvs (Sum.inl (((2 ^ i % m : Nat) : Int)))).isSome = true) : ∃ l, IsRow m i l ∧ valV kvs (Sum.inl (((2 ^ i % m : Nat) : Int))) = some (.int (l : Int)) := by
  obtain ⟨v, hv⟩ := Option.isSome_iff_exists.mp hs
  obtain ⟨l, h1, h2⟩ := h.only _ v hv
  have h3 : 2 ^ i % m = 2 ^ l % m := by exact_mod_cast h2
  exact ⟨l, ⟨h1, h3, h.dist⟩, by rw [h3]; exact h.has l h1⟩
theorem Plc.le {m i : Nat} {kvs : List (Key × V)} (hm : 0 < m) (h : Plc m i kvs) : i ≤ m := distinct_le hm h.dist
/-! ### check_modulus, power_row -/
def pCheckMod (CN : Addr) : V → Hp → VP → WP → Prop := fun x H R W => ∃ m : Int, x = .int m ∧ (1 ≤ m ∧ m ≤ 10000 → ∀ H', R .non H') ∧ (¬ (1 ≤ m ∧ m ≤ 10000) → W CN)
def sp_check_modulus (K : PySem.W.Frag) (CN : Addr) : Sp := spX1 K (pCheckMod CN)
def t_check_modulus (K : PySem.W.Frag) (a_NotAllowed : Addr) (E : XK) : TS := (tIfS (tOr (tTest (tOp xLt (tVar 0) (tC (.int 1)))) (tTest (tOp xGt (tVar 0) (tC (.int 10000))))) (tRaise K E a_NotAllowed) tNext)
theorem pure_check_modulus {K : PySem.W.Frag} {CN : Addr} {vs : List V} {H : Hp} {Q : VK} {E : XK} (h : sp_check_modulus K CN vs H Q E) : t_check_modulus K CN E { nx := fun _ H' => Q .non H', rt := Q } (start ["m"] vs) H := by
  obtain ⟨x, R, W, rfl, ⟨m, rfl, h1, h2⟩, k, kE⟩ := h
  refine s_when (b := decide (m < 1) || decide (10000 < m)) (et_or (et_test (ev_lt (ev_var rfl) ev_c)) fun _ => et_test (ev_gt (ev_var rfl) ev_c)) (fun hc H1 e1 => ?_) (fun hc H1 e1 => ?_)
  · refine (fun Hz ez => kE CN Hz (e1.trans ez) (h2 ?_))
    simp at hc
    omega
  · refine k _ H1 e1 (h1 ?_ _)
    simp at hc
    omega
/-- a power row in the heap: the list of the powers -/
def PRow (H0 : Hp) (m : Nat) : VP := fun v H' => ∃ q p n l, v = .ref q ∧ IsRow m n l ∧ H' q = some (.tup [.ref p, .int (l : Int)]) ∧ H' p = some (.lst ((pows m n).map V.int)) ∧ H0 p = none
def pPowerRow : V → Hp → VP → Prop := fun x H R => ∃ m : Nat, x = .int (m : Int) ∧ 1 ≤ m ∧ m ≤ 10000 ∧
  ∀ v H', PRow H m v H' → R v H'
def sp_power_row (K : PySem.W.Frag) : Sp := spF1 pPowerRow
def t_power_row (K : PySem.W.Frag) : TS := (tSeq (tAsg (tLst tNil) (gName 1))
    (tSeq (tAsg tDNewK (gName 2))
    (tSeq (tAsg (tOp xMod (tC (.int 1)) (tVar 0)) (gName 3))
    (tSeq (tWhile (tB (tDNotIn (tVar 3) (tVar 2))) (tSeq (sDPut (tVar 2) (tVar 3) (tCB (rLenS K) (tCons (tVar 1) tNil)))
    (tSeq (tDrop (tBM K "list" rAppend (tVar 1) (tCons (tVar 3) tNil)))
    (tAsg (tOp xMod (tOp xMul (tC (.int 2)) (tVar 3)) (tVar 0)) (gName 3)))))
    (tRet (tTup (tCons (tVar 1) (tCons (tDGet (tVar 2) (tVar 3)) tNil))))))))
def WRow (m : Nat) (l d : Addr) (H0 : Hp) (w : Nat) (σ : L2.St) (H : Hp) : Prop := ∃ (i : Nat) (kvs : List (Key × V)),
  σ = [some (.int (m : Int)), some (.ref l), some (.ref d), some (.int ((2 ^ i % m : Nat) : Int))] ∧ w = m + 1 - i ∧ H0 l = none ∧ H0 d = none ∧ l ≠ d ∧ Ex H0 H ∧ H l = some (.lst ((pows m i).map V.int)) ∧ H d = some (.dK kvs) ∧ Plc m i kvs
theorem pows_succ (m i : Nat) : pows m (i + 1) = pows m i ++ [((2 ^ i % m : Nat) : Int)] := by
  unfold pows
  rw [List.range_succ, List.map_append] <;> rfl
theorem pows_len (m n : Nat) : (pows m n).length = n := by unfold pows; rw [List.length_map, List.length_range]
theorem pure_power_row {K : PySem.W.Frag} {vs : List V} {H : Hp} {Q : VK} {E : XK} (h : sp_power_row K vs H Q E) : t_power_row K { nx := fun _ H' => Q .non H', rt := Q } (start ["m", "powers", "places", "power"] vs) H := by
  obtain ⟨x, R, rfl, ⟨m, rfl, hm1, hm2, hR⟩, k⟩ := h
  refine q_asgL (el_lst ea_nil (by decide)) fun l H1 hl e1 h1 => ?_
  refine q_asgD fun d H2 hd e2 h2 => ?_
  have hld : l ≠ d := fun e => by rw [← e, h1] at hd; cases hd
  refine q_asg (ev_mod ev_c (ev_var rfl) (by omega)) fun H3 e3 => ?_
  have hp1 : (1 : Int) % (m : Int) = ((2 ^ 0 % m : Nat) : Int) := by rw [Nat.pow_zero]; norm_cast
  rw [hp1]
  refine q_while' (WRow m l d H) (m + 1 - 0) ⟨0, [], rfl, rfl, hl, fresh_back e1 hd, hld, (e1.trans e2).trans e3, (e2.trans e3) l _ h1, e3 d _ h2, Plc.zero m⟩ ?_
  rintro w σ' H' ⟨i, kvs, rfl, rfl, hl0, hd0, hld, e4, h4, h5, hP⟩
  have hi := hP.le (by omega)
  refine ⟨_, et_B (ev_dnotin (ev_var rfl) (ev_var rfl) h5), fun hb H5 e5 => ?_, fun hb H5 e5 => ?_⟩
  · have hn : valV kvs (Sum.inl (((2 ^ i % m : Nat) : Int))) = none := by
      cases hq : valV kvs (Sum.inl (((2 ^ i % m : Nat) : Int))) with
      | none => rfl
      | some v => rw [hq] at hb; cases hb
    have hP' := hP.next hn
    have hi' := hP'.le (by omega)
    refine q_dput (e5 d _ h5) (v := .int (i : Int)) (ev_is (ev_lenL (ev_var rfl) (sq_of (e5 l _ h4))) (by rw [List.length_map, pows_len])) (ev_var rfl) (ev_var rfl) (by rw [hP.len]; omega) fun H6 e6 => ?_
    have h46 : (upd H6 d (.dK (putK kvs (Sum.inl (((2 ^ i % m : Nat) : Int))) (.int (i : Int))))) l = some (.lst ((pows m i).map V.int)) := by rw [upd_ne hld]; exact (e5.trans e6) l _ h4
    refine q_app h46 (ev_var rfl) (ev_var rfl) (by rw [List.length_map, pows_len]; omega) fun H7 e7 => ?_
    have hdl : d ≠ l := fun e => hld e.symm
    refine s_asg (ev_mod (ev_mul ev_c (ev_var rfl) (.inl (by decide))) (ev_var rfl) (by omega)) fun H8 e8 => ⟨m + 1 - (i + 1), by omega, i + 1, _, ?_, rfl, hl0, hd0, hld, ?_, ?_, e8 d _ (by rw [upd_ne hdl]; exact e7 d _ upd_same), hP'⟩
    · have : (2 : Int) * ((2 ^ i % m : Nat) : Int) % (m : Int) = ((2 ^ (i + 1) % m : Nat) : Int) := by rw [← pow_mod_succ]; norm_cast
      rw [this] <;> rfl
    · exact (Ex.mut ((Ex.mut (e4.trans (e5.trans e6)) hd0).trans e7) hl0).trans e8
    · rw [pows_succ, List.map_append]
      exact e8 l _ upd_same
  · have hs : (valV kvs (Sum.inl (((2 ^ i % m : Nat) : Int)))).isSome = true := by
      cases hq : valV kvs (Sum.inl (((2 ^ i % m : Nat) : Int))) with
      | none => rw [hq] at hb; cases hb
      | some v => rfl
    obtain ⟨l', hr, hv⟩ := hP.done hs
    refine s_retU (eu_tup (ea_cons (ev_var rfl) (ea_cons (ev_dget (ev_var rfl) (ev_var rfl) (e5 d _ h5) hv) ea_nil)) (by show 2 ≤ 100000; omega)) fun q H6 _ e6 h6 => k _ _ (e4.trans (e5.trans e6)) (hR _ _ ⟨q, l, i, l', rfl, hr, h6, (e5.trans e6) l _ h4, hl0⟩)
end Sk

set_option Elab.async false
set_option linter.all false
set_option maxRecDepth 100000
set_option maxHeartbeats 2000000
namespace Sk
/-! ### how many terms an integer has -/
theorem naf_len_p (k : Nat) : ∀ (n : Int) (p q : Nat), n.natAbs ≤ k → (naf n p).length = (naf n q).length := by
  induction k with
  | zero =>
    intro n p q h
    have : n = 0 := by omega
    subst this; rw [naf_zero, naf_zero]
  | succ k ih =>
    intro n p q h
    by_cases h0 : n = 0
    · subst h0; rw [naf_zero, naf_zero]
    rcases Int.emod_two_eq n with e | e
    · rw [naf_even e, naf_even e]; exact ih _ _ _ (by omega)
    · rw [naf_odd e, naf_odd e, List.length_cons, List.length_cons]
      by_cases hz : (n - (2 - n % 4)) / 2 = 0
      · rw [hz, naf_zero, naf_zero]
      · rw [ih _ (p + 1) (q + 1) (by omega)]
def wt (n : Int) : Nat := (naf n 0).length
theorem wt_zero : wt 0 = 0 := by unfold wt; rw [naf_zero] <;> rfl
theorem wt_even {n : Int} (h : n % 2 = 0) : wt n = wt (n / 2) := by
  unfold wt
  rw [naf_even h]
  exact naf_len_p _ _ _ _ (Nat.le_refl _)
theorem wt_dbl (n : Int) : wt (2 * n) = wt n := by
  rw [wt_even (by omega), show 2 * n / 2 = n by omega]
theorem wt_one {n : Int} (h : n % 4 = 1) : wt n = wt ((n - 1) / 4) + 1 := by
  unfold wt
  rw [naf_odd (by omega), List.length_cons, show (n - (2 - n % 4)) / 2 = 2 * ((n - 1) / 4) by omega]
  rw [naf_len_p _ (2 * ((n - 1) / 4)) (0 + 1) 0 (Nat.le_refl _)]
  exact congrArg (· + 1) (wt_dbl _)
theorem wt_three {n : Int} (h : n % 4 = 3) : wt n = wt ((n + 1) / 4) + 1 := by
  unfold wt
  rw [naf_odd (by omega), List.length_cons, show (n - (2 - n % 4)) / 2 = 2 * ((n + 1) / 4) by omega]
  rw [naf_len_p _ (2 * ((n + 1) / 4)) (0 + 1) 0 (Nat.le_refl _)]
  exact congrArg (· + 1) (wt_dbl _)
/-- one more or less, one term more at most; beside an odd number no more than it has -/
theorem wt_near : ∀ (k : Nat) (n : Int), n.natAbs ≤ k → (wt (n + 1) ≤ wt n + 1 ∧ wt (n - 1) ≤ wt n + 1) ∧ (n % 2 = 1 → wt (n + 1) ≤ wt n ∧ wt (n - 1) ≤ wt n)
  | 0, n, h => by
    have : n = 0 := by omega
    subst this
    have h1 : wt 1 = 1 := by rw [wt_one (by decide), show ((1 : Int) - 1) / 4 = 0 by decide, wt_zero]
    have h2 : wt (-1) = 1 := by rw [wt_three (by decide), show ((-1 : Int) + 1) / 4 = 0 by decide, wt_zero]
    exact ⟨⟨by show wt 1 ≤ _; omega, by show wt (-1) ≤ _; omega⟩, fun q => absurd q (by decide)⟩
  | k + 1, n, h => by
    by_cases h0 : n = 0
    · subst h0
      exact ⟨(wt_near 0 0 (Nat.le_refl _)).1, fun q => absurd q (by decide)⟩
    have key : n % 4 = 0 ∨ n % 4 = 1 ∨ n % 4 = 2 ∨ n % 4 = 3 := by omega
    rcases key with q | q | q | q
    · have a1 : wt (n + 1) = wt (n / 4) + 1 := by rw [wt_one (by omega), show (n + 1 - 1) / 4 = n / 4 by omega]
      have a2 : wt (n - 1) = wt (n / 4) + 1 := by rw [wt_three (by omega), show (n - 1 + 1) / 4 = n / 4 by omega]
      have a3 : wt n = wt (n / 4) := by rw [wt_even (by omega), wt_even (by omega), show n / 2 / 2 = n / 4 by omega]
      exact ⟨⟨by omega, by omega⟩, fun z => absurd z (by omega)⟩
    · -- n = 4 j + 1
      have a0 : wt n = wt ((n - 1) / 4) + 1 := wt_one q
      have a1 : wt (n - 1) = wt ((n - 1) / 4) := by rw [wt_even (by omega), wt_even (by omega), show (n - 1) / 2 / 2 = (n - 1) / 4 by omega]
      have a2 : wt (n + 1) = wt (2 * ((n - 1) / 4) + 1) := by rw [wt_even (by omega), show (n + 1) / 2 = 2 * ((n - 1) / 4) + 1 by omega]
      have a3 : wt (2 * ((n - 1) / 4) + 1) ≤ wt (2 * ((n - 1) / 4)) + 1 := by
        by_cases hz : (n - 1) / 4 = 0
        · rw [hz]; exact (wt_near 0 0 (Nat.le_refl _)).1.1
        · exact (wt_near k _ (by omega)).1.1
      rw [wt_dbl] at a3
      exact ⟨⟨by omega, by omega⟩, fun _ => ⟨by omega, by omega⟩⟩
    · -- n = 4 j + 2
      have a0 : wt n = wt (n / 2) := wt_even (by omega)
      have ih := (wt_near k (n / 2) (by omega)).2 (by omega)
      have a1 : wt (n + 1) = wt ((n + 2) / 4) + 1 := by rw [wt_three (by omega), show (n + 1 + 1) / 4 = (n + 2) / 4 by omega]
      have a2 : wt (n - 1) = wt ((n - 2) / 4) + 1 := by rw [wt_one (by omega), show (n - 1 - 1) / 4 = (n - 2) / 4 by omega]
      have b1 : wt (n / 2 + 1) = wt ((n + 2) / 4) := by rw [wt_even (by omega), show (n / 2 + 1) / 2 = (n + 2) / 4 by omega]
      have b2 : wt (n / 2 - 1) = wt ((n - 2) / 4) := by rw [wt_even (by omega), show (n / 2 - 1) / 2 = (n - 2) / 4 by omega]
      exact ⟨⟨by omega, by omega⟩, fun z => absurd z (by omega)⟩
    · have a0 : wt n = wt ((n + 1) / 4) + 1 := wt_three q
      have a1 : wt (n + 1) = wt ((n + 1) / 4) := by rw [wt_even (by omega), wt_even (by omega), show (n + 1) / 2 / 2 = (n + 1) / 4 by omega]
      have a2 : wt (n - 1) = wt (2 * ((n + 1) / 4) - 1) := by rw [wt_even (by omega), show (n - 1) / 2 = 2 * ((n + 1) / 4) - 1 by omega]
      have a3 : wt (2 * ((n + 1) / 4) - 1) ≤ wt (2 * ((n + 1) / 4)) + 1 := by
        by_cases hz : (n + 1) / 4 = 0
        · rw [hz]; exact (wt_near 0 0 (Nat.le_refl _)).1.2
        · exact (wt_near k _ (by omega)).1.2
      rw [wt_dbl] at a3
      exact ⟨⟨by omega, by omega⟩, fun _ => ⟨by omega, by omega⟩⟩
theorem wt_succ (n : Int) : wt (n + 1) ≤ wt n + 1 := (wt_near _ n (Nat.le_refl _)).1.1
theorem wt_pred (n : Int) : wt (n - 1) ≤ wt n + 1 := (wt_near _ n (Nat.le_refl _)).1.2
/-- a power of two more or less -/
theorem wt_pow : ∀ (p : Nat) (n s : Int), (s = 1 ∨ s = -1) → wt (n + s * 2 ^ p) ≤ wt n + 1
  | 0, n, s, hs => by
    rw [Int.pow_zero, Int.mul_one]
    rcases hs with rfl | rfl
    · exact wt_succ n
    · exact wt_pred n
  | p + 1, n, s, hs => by
    have e : s * 2 ^ (p + 1) = 2 * (s * 2 ^ p) := by rw [Int.pow_succ, ← Int.mul_assoc, Int.mul_comm]
    rw [e]
    rcases Int.emod_two_eq n with q | q
    · rw [wt_even (n := n) q, show n + 2 * (s * 2 ^ p) = 2 * (n / 2 + s * 2 ^ p) by omega, wt_dbl]
      exact wt_pow p _ s hs
    · cases p with
      | zero =>
        rw [Int.pow_zero, Int.mul_one]
        have h4 : n % 4 = 1 ∨ n % 4 = 3 := by omega
        rcases hs with rfl | rfl <;> rcases h4 with h4 | h4
        · have a0 := wt_one h4
          have a1 : wt (n + 2 * 1) = wt ((n - 1) / 4 + 1) + 1 := by rw [wt_three (by omega), show (n + 2 * 1 + 1) / 4 = (n - 1) / 4 + 1 by omega]
          have := wt_succ ((n - 1) / 4)
          omega
        · have a0 := wt_three h4
          have a1 : wt (n + 2 * 1) = wt ((n + 1) / 4) + 1 := by rw [wt_one (by omega), show (n + 2 * 1 - 1) / 4 = (n + 1) / 4 by omega]
          omega
        · have a0 := wt_one h4
          have a1 : wt (n + 2 * -1) = wt ((n - 1) / 4) + 1 := by rw [wt_three (by omega), show (n + 2 * -1 + 1) / 4 = (n - 1) / 4 by omega]
          omega
        · have a0 := wt_three h4
          have a1 : wt (n + 2 * -1) = wt ((n + 1) / 4 - 1) + 1 := by rw [wt_one (by omega), show (n + 2 * -1 - 1) / 4 = (n + 1) / 4 - 1 by omega]
          have := wt_pred ((n + 1) / 4)
          omega
      | succ p =>
        have e2 : 2 * (s * 2 ^ (p + 1)) = 4 * (s * 2 ^ p) := by
          have h3 : s * (2 ^ p * 2) = (s * 2 ^ p) * 2 := (Int.mul_assoc _ _ _).symm
          rw [Int.pow_succ, h3]; omega
        rw [e2]
        have h4 : n % 4 = 1 ∨ n % 4 = 3 := by omega
        rcases h4 with h4 | h4
        · rw [wt_one (n := n) h4, wt_one (n := n + _) (by omega), show (n + 4 * (s * 2 ^ p) - 1) / 4 = (n - 1) / 4 + s * 2 ^ p by omega]
          have := wt_pow p ((n - 1) / 4) s hs
          omega
        · rw [wt_three (n := n) h4, wt_three (n := n + _) (by omega), show (n + 4 * (s * 2 ^ p) + 1) / 4 = (n + 1) / 4 + s * 2 ^ p by omega]
          have := wt_pow p ((n + 1) / 4) s hs
          omega
/-! ### the sizes of small integers, by reckoning -/
def placesF : Nat → Nat → Nat → List Nat
  | 0, _, _ => []
  | f + 1, n, p => if n = 0 then [] else if n % 4 = 1 then p :: placesF f ((n - 1) / 2) (p + 1) else if n % 4 = 3 then p :: placesF f ((n + 1) / 2) (p + 1) else placesF f (n / 2) (p + 1)
theorem placesF_eq : ∀ (f n p : Nat), n ≤ 2 ^ f → placesF (f + 1) n p = (naf (n : Int) p).map (·.2)
  | 0, n, p, h => by
    have h' : n = 0 ∨ n = 1 := by simp at h; omega
    rcases h' with rfl | rfl
    · rw [show ((0 : Nat) : Int) = 0 from rfl, naf_zero] <;> rfl
    · rw [show ((1 : Nat) : Int) = 1 from rfl, naf_odd (by decide), show ((1 : Int) - (2 - 1 % 4)) / 2 = 0 by decide, naf_zero] <;> rfl
  | f + 1, n, p, h => by
    rw [Nat.pow_succ] at h
    have hp : 0 < 2 ^ f := Nat.two_pow_pos f
    by_cases h0 : n = 0
    · subst h0; rw [show ((0 : Nat) : Int) = 0 from rfl, naf_zero] <;> rfl
    have key : n % 4 = 0 ∨ n % 4 = 1 ∨ n % 4 = 2 ∨ n % 4 = 3 := by omega
    unfold placesF
    rw [if_neg h0]
    rcases key with q | q | q | q
    · rw [if_neg (by omega), if_neg (by omega), placesF_eq f (n / 2) (p + 1) (by omega), naf_even (n := (n : Int)) (by omega), show ((n : Int)) / 2 = ((n / 2 : Nat) : Int) by omega]
    · rw [if_pos q, placesF_eq f ((n - 1) / 2) (p + 1) (by omega), naf_odd (n := (n : Int)) (by omega), show ((n : Int) - (2 - (n : Int) % 4)) / 2 = (((n - 1) / 2 : Nat) : Int) by omega, List.map_cons]
    · rw [if_neg (by omega), if_neg (by omega), placesF_eq f (n / 2) (p + 1) (by omega), naf_even (n := (n : Int)) (by omega), show ((n : Int)) / 2 = ((n / 2 : Nat) : Int) by omega]
    · rw [if_neg (by omega), if_pos q, placesF_eq f ((n + 1) / 2) (p + 1) (by omega), naf_odd (n := (n : Int)) (by omega), show ((n : Int) - (2 - (n : Int) % 4)) / 2 = (((n + 1) / 2 : Nat) : Int) by omega, List.map_cons]
theorem size_toT (n : Int) : (toT n).size = 1 + (((naf n 0).map (·.2)).map fun p : Nat => (toT (p : Int)).size).sum := by
  rw [size_toL, toL_toT, List.map_map, List.map_map]
  congr 1
  exact (List.reverse_perm _).map _ |>.sum_nat
def szF : Nat → Nat → Nat
  | 0, _ => 1
  | d + 1, n => 1 + ((placesF 15 n 0).map (szF d)).sum
theorem szF_eq : ∀ (d n : Nat), n < Cb (d + 1) → n ≤ 16384 → szF d n = (toT (n : Int)).size
  | 0, n, h, _ => by
    have : n = 0 := by
      have : n < 1 := h
      omega
    subst this
    rw [show ((0 : Nat) : Int) = 0 from rfl, toT_eq, naf_zero] <;> rfl
  | d + 1, n, h, h2 => by
    rw [size_toT, szF, placesF_eq 14 n 0 h2]
    congr 2
    refine List.map_congr_left fun p hp => ?_
    obtain ⟨x, hx, rfl⟩ := List.mem_map.mp hp
    refine szF_eq d x.2 (Cb_step (by simpa using h) hx) ?_
    have := naf_lt hx
    simp at this
    omega
theorem Cb_ge5 : 16385 ≤ Cb 6 := by
  have h3 : Cb 3 = 3 := by decide
  have h4 : Cb 4 = 5 := by show 2 ^ (Cb 3 - 1) + 1 = 5; rw [h3] <;> rfl
  have h5 : Cb 5 = 17 := by show 2 ^ (Cb 4 - 1) + 1 = 17; rw [h4] <;> rfl
  have h6 : Cb 6 = 65537 := by show 2 ^ (Cb 5 - 1) + 1 = 65537; rw [h5] <;> rfl
  omega
theorem sz_le (n : Nat) (h : n ≤ 16384) : szF 5 n = (toT (n : Int)).size := szF_eq 5 n (Nat.lt_of_lt_of_le (Nat.lt_succ_of_le h) Cb_ge5) h
def tb : List Nat := [1, 2, 3, 5, 4, 5, 8, 7, 6, 7, 8, 9, 8, 9]
theorem tb_eq : ∀ p : Nat, p < 14 → tb.getD p 0 = (toT (p : Int)).size := by
  have h : ∀ p : Nat, p < 14 → tb.getD p 0 = szF 5 p := by decide +kernel
  intro p hp
  rw [← sz_le p (by omega)]
  exact h p hp
theorem sz14 : ∀ p : Nat, p < 14 → (toT (p : Int)).size ≤ 9 := by
  intro p hp
  rw [← tb_eq p hp]
  exact (by decide : ∀ p : Nat, p < 14 → tb.getD p 0 ≤ 9) p hp
def costF : Nat → Nat → Nat → Nat
  | 0, _, _ => 0
  | f + 1, n, p => if n = 0 then 0 else if n % 4 = 1 then tb.getD p 0 + costF f ((n - 1) / 2) (p + 1) else if n % 4 = 3 then tb.getD p 0 + costF f ((n + 1) / 2) (p + 1) else costF f (n / 2) (p + 1)
theorem costF_eq : ∀ (f n p : Nat), costF f n p = ((placesF f n p).map fun q => tb.getD q 0).sum
  | 0, _, _ => rfl
  | f + 1, n, p => by
    unfold costF placesF
    split
    · rfl
    · split
      · rw [List.map_cons, List.sum_cons, costF_eq f]
      · split
        · rw [List.map_cons, List.sum_cons, costF_eq f]
        · exact costF_eq f _ _
theorem sz_cost (n : Nat) (h : n ≤ 4096) : (toT (n : Int)).size = 1 + costF 13 n 0 := by
  rw [size_toT, costF_eq, placesF_eq 12 n 0 h]
  congr 2
  refine List.map_congr_left fun p hp => ?_
  obtain ⟨x, hx, rfl⟩ := List.mem_map.mp hp
  have := naf_le (m := 12) (by simpa using h) hx
  exact (tb_eq x.2 (by omega)).symm
theorem sz2810 : ∀ p : Nat, p < 2810 → (toT (p : Int)).size ≤ 39 := by
  have h : ∀ p : Nat, p < 2810 → costF 13 p 0 ≤ 38 := by decide +kernel
  intro p hp
  rw [sz_cost p (by omega)]
  have := h p hp
  omega
theorem height_toT : ∀ (d : Nat) (n : Int), n.natAbs < Cb (d + 1) → (toT n).height ≤ d
  | 0, n, h => by
    have : n = 0 := by
      have : n.natAbs < 1 := h
      omega
    subst this
    rw [toT_eq, naf_zero]; exact Nat.le_refl _
  | d + 1, n, h => by
    refine height_le_of fun x hx => ?_
    rw [toL_toT] at hx
    obtain ⟨y, hy, rfl⟩ := List.mem_map.mp hx
    have := height_toT d (y.2 : Int) (by have := Cb_step h (List.mem_reverse.mp hy); simpa using this)
    exact Nat.succ_le_succ this
end Sk

set_option Elab.async false
set_option linter.all false
set_option maxRecDepth 100000
set_option maxHeartbeats 2000000
namespace Sk
theorem wt_neg : ∀ (k : Nat) (n : Int), n.natAbs ≤ k → wt (-n) = wt n
  | 0, n, h => by
    have : n = 0 := by omega
    subst this; rfl
  | k + 1, n, h => by
    by_cases h0 : n = 0
    · subst h0; rfl
    have key : n % 4 = 0 ∨ n % 4 = 1 ∨ n % 4 = 2 ∨ n % 4 = 3 := by omega
    rcases key with q | q | q | q
    · rw [wt_even (n := n) (by omega), wt_even (n := -n) (by omega), show -n / 2 = -(n / 2) by omega, wt_neg k _ (by omega)]
    · rw [wt_one (n := n) q, wt_three (n := -n) (by omega), show (-n + 1) / 4 = -((n - 1) / 4) by omega]
      by_cases hz : (n - 1) / 4 = 0
      · rw [hz]; rfl
      · rw [wt_neg k _ (by omega)]
    · rw [wt_even (n := n) (by omega), wt_even (n := -n) (by omega), show -n / 2 = -(n / 2) by omega, wt_neg k _ (by omega)]
    · rw [wt_three (n := n) q, wt_one (n := -n) (by omega), show (-n - 1) / 4 = -((n + 1) / 4) by omega]
      by_cases hz : (n + 1) / 4 = 0
      · rw [hz]; rfl
      · rw [wt_neg k _ (by omega)]
theorem wt_add_list : ∀ (l : List (Int × Nat)) (n : Int), (∀ x ∈ l, x.1 = 1 ∨ x.1 = -1) → wt (n + sumP l) ≤ wt n + l.length
  | [], n, _ => by show wt (n + 0) ≤ wt n; rw [Int.add_zero]; exact Nat.le_refl _
  | (s, p) :: r, n, h => by
    have h1 := wt_add_list r (n + s * 2 ^ p) fun x hx => h x (List.mem_cons_of_mem _ hx)
    have h2 := wt_pow p n s (h (s, p) List.mem_cons_self)
    show wt (n + (s * 2 ^ p + sumP r)) ≤ wt n + (r.length + 1)
    rw [← Int.add_assoc]
    omega
theorem wt_add (n c : Int) : wt (n + c) ≤ wt n + wt c := by
  have h := wt_add_list (naf c 0) n fun x hx => naf_sign hx
  rw [naf_sum _ c (Nat.le_refl _) 0] at h
  simpa [wt] using h
theorem wt_20 {c : Int} (h : c.natAbs ≤ 20) : wt c ≤ 3 := by
  have pos : ∀ k : Nat, k ≤ 20 → wt (k : Int) ≤ 3 := by
    have h : ∀ k : Nat, k < 21 → (placesF 6 k 0).length ≤ 3 := by decide +kernel
    intro k hk
    have := h k (by omega)
    rw [placesF_eq 5 k 0 (by omega), List.length_map] at this
    exact this
  rcases Int.le_total 0 c with h0 | h0
  · have := pos c.toNat (by omega)
    rwa [show ((c.toNat : Nat) : Int) = c by omega] at this
  · have := pos (-c).toNat (by omega)
    rw [show (((-c).toNat : Nat) : Int) = -c by omega, wt_neg _ _ (Nat.le_refl _)] at this
    exact this
theorem wt_mul_pow (h : Int) : ∀ k : Nat, wt (2 ^ k * h) = wt h
  | 0 => by rw [Int.pow_zero, Int.one_mul]
  | k + 1 => by rw [Int.pow_succ, Int.mul_comm (2 ^ k) 2, Int.mul_assoc, wt_dbl, wt_mul_pow h k]
/-- a sum of i signed powers of two, told apart at the place 14 -/
structure PlW (i : Nat) (n : Int) : Prop where
  wt : wt n ≤ i
  big : n.natAbs ≤ i * 2 ^ 2799
  part : ∃ (B r : Int) (j : Nat), n = 16384 * B + r ∧ j ≤ i ∧ Sk.wt B ≤ j ∧ r.natAbs ≤ (i - j) * 8192
theorem PlW.zero : PlW 0 0 := ⟨by rw [wt_zero]; exact Nat.le_refl _, Nat.zero_le _, 0, 0, 0, rfl, Nat.le_refl _, by rw [wt_zero]; exact Nat.le_refl _, Nat.zero_le _⟩
theorem PlW.next {i : Nat} {n s : Int} {p : Nat} (h : PlW i n) (hs : s = 1 ∨ s = -1) (hp : p < 2800) : PlW (i + 1) (n + s * 2 ^ p) := by
  have hp2 : 2 ^ p ≤ 2 ^ 2799 := Nat.pow_le_pow_right (by decide) (by omega)
  have hc : ((2 ^ p : Nat) : Int) = (2 : Int) ^ p := by norm_cast
  refine ⟨Nat.le_trans (wt_pow p n s hs) (Nat.succ_le_succ h.wt), ?_, ?_⟩
  · have h1 := h.big
    rw [Nat.succ_mul]
    generalize (2 : Nat) ^ 2799 = X at *
    generalize i * X = Y at *
    rw [← hc]
    generalize (2 : Nat) ^ p = Z at *
    rcases hs with rfl | rfl <;> omega
  · obtain ⟨B, r, j, h1, h2, h3, h4⟩ := h.part
    by_cases hq : 14 ≤ p
    · refine ⟨B + s * 2 ^ (p - 14), r, j + 1, ?_, by omega, Nat.le_trans (wt_pow _ B s hs) (by omega), by rw [Nat.add_sub_add_right]; exact h4⟩
      have e : (2 : Int) ^ p = 16384 * 2 ^ (p - 14) := by
        have : p = 14 + (p - 14) := by omega
        rw [this, Int.pow_add, Nat.add_sub_cancel_left] <;> rfl
      rw [e, h1, Int.mul_add, ← Int.mul_assoc s, Int.mul_comm s, Int.mul_assoc]
      omega
    · refine ⟨B, r + s * 2 ^ p, j, by rw [h1]; omega, by omega, h3, ?_⟩
      have e : 2 ^ p ≤ 2 ^ 13 := Nat.pow_le_pow_right (by decide) (by omega)
      have e2 : (2 : Nat) ^ 13 = 8192 := by decide
      rw [e2] at e
      rw [← hc]
      generalize (2 : Nat) ^ p = Z at *
      rcases hs with rfl | rfl <;> omega
theorem PlW.le {i : Nat} {n : Int} (h : PlW i n) (hi : i ≤ 5) : PlW 5 n := by
  obtain ⟨B, r, j, h1, h2, h3, h4⟩ := h.part
  exact ⟨Nat.le_trans h.wt hi, Nat.le_trans h.big (Nat.mul_le_mul_right _ hi), B, r, j, h1, by omega, h3, by omega⟩
theorem sum_all : ∀ (l : List Nat) (f : Nat → Nat) (m : Nat), (∀ p ∈ l, f p ≤ m) → (l.map f).sum ≤ m * l.length
  | [], _, _, _ => Nat.zero_le _
  | p :: l, f, m, h => by
    have h1 := sum_all l f m fun q hq => h q (List.mem_cons_of_mem _ hq)
    have h2 := h p List.mem_cons_self
    rw [List.map_cons, List.sum_cons, List.length_cons, Nat.mul_succ]
    omega
theorem sum_one : ∀ (l : List Nat) (f : Nat → Nat) (m a : Nat), (∀ p ∈ l, f p ≤ m) → (∃ p ∈ l, f p ≤ a) → (l.map f).sum + m ≤ m * l.length + a
  | [], _, _, _, _, ⟨p, hp, _⟩ => by cases hp
  | q :: l, f, m, a, h, ⟨p, hp, hq⟩ => by
    have h2 := h q List.mem_cons_self
    rw [List.map_cons, List.sum_cons, List.length_cons, Nat.mul_succ]
    rcases List.mem_cons.mp hp with rfl | hp
    · have h1 := sum_all l f m fun q hq => h q (List.mem_cons_of_mem _ hq)
      omega
    · have h1 := sum_one l f m a (fun q hq => h q (List.mem_cons_of_mem _ hq)) ⟨p, hp, hq⟩
      omega
theorem dvd_sumP : ∀ (l : List (Int × Nat)), (∀ x ∈ l, 14 ≤ x.2) → ∃ h : Int, sumP l = 16384 * h
  | [], _ => ⟨0, rfl⟩
  | (s, p) :: r, h => by
    obtain ⟨z, hz⟩ := dvd_sumP r fun x hx => h x (List.mem_cons_of_mem _ hx)
    have hp : 14 ≤ p := h (s, p) List.mem_cons_self
    refine ⟨s * 2 ^ (p - 14) + z, ?_⟩
    have e : (2 : Int) ^ p = 16384 * 2 ^ (p - 14) := by
      have : p = 14 + (p - 14) := by omega
      rw [this, Int.pow_add, Nat.add_sub_cancel_left] <;> rfl
    show s * 2 ^ p + sumP r = _
    rw [hz, e, Int.mul_add, ← Int.mul_assoc s, Int.mul_comm s, Int.mul_assoc]
theorem plain_big {n c : Int} (h : PlW 5 n) (hc : c.natAbs ≤ 20) : (n + c).natAbs ≤ 2 ^ 2802 := by
  have h1 := h.big
  have h2 : (2 : Nat) ^ 2802 = 2 ^ 2799 * 8 := by rw [show 2802 = 2799 + 3 by rfl, Nat.pow_add]
  have h3 : 20 ≤ (2 : Nat) ^ 2799 := Nat.le_trans (by decide : 20 ≤ 2 ^ 5) (Nat.pow_le_pow_right (by decide) (by decide))
  rw [h2]
  generalize (2 : Nat) ^ 2799 = X at *
  omega
theorem plain_fits {n c : Int} (h : PlW 5 n) (hc : c.natAbs ≤ 20) : (toT (n + c)).fits := by
  have hb := plain_big h hc
  have hw := Nat.le_trans (wt_add n c) (Nat.add_le_add h.wt (wt_20 hc))
  have hpl : ∀ p ∈ (naf (n + c) 0).map (·.2), (toT ((p : Nat) : Int)).size ≤ 39 := fun p hp => by
    obtain ⟨x, hx, rfl⟩ := List.mem_map.mp hp
    exact sz2810 _ (Nat.lt_of_le_of_lt (naf_le hb hx) (by decide))
  have hlen : ((naf (n + c) 0).map (·.2)).length = wt (n + c) := by rw [List.length_map] <;> rfl
  refine ⟨?_, Nat.le_trans (height_toT 6 _ (lt_Cb7 (k := 2803) (Nat.lt_of_le_of_lt hb (Nat.pow_lt_pow_right (by decide) (by decide))) (by decide))) (by decide)⟩
  rw [size_toT]
  by_cases hl : ∃ x ∈ naf (n + c) 0, x.2 < 14
  · obtain ⟨x, hx, hx14⟩ := hl
    have := sum_one ((naf (n + c) 0).map (·.2)) (fun p => (toT ((p : Nat) : Int)).size) 39 9 hpl ⟨x.2, List.mem_map.mpr ⟨x, hx, rfl⟩, sz14 _ hx14⟩
    rw [hlen] at this
    omega
  · have hall : ∀ x ∈ naf (n + c) 0, 14 ≤ x.2 := fun x hx => Nat.le_of_not_lt fun q => hl ⟨x, hx, q⟩
    obtain ⟨t, ht⟩ := dvd_sumP _ hall
    rw [naf_sum _ _ (Nat.le_refl _), Int.pow_zero, Int.mul_one] at ht
    obtain ⟨B, r, j, h1, h2, h3, h4⟩ := h.part
    have hw2 : wt (n + c) = wt t := by
      rw [ht]
      have := wt_mul_pow t 14
      rwa [show (2 : Int) ^ 14 = 16384 by decide] at this
    have hd : t = B ∨ t = B + 1 ∨ t = B + 1 + 1 ∨ t = B - 1 ∨ t = B - 1 - 1 := by omega
    have hw3 : wt t ≤ 7 := by
      have s1 := wt_succ B
      have s2 := wt_succ (B + 1)
      have p1 := wt_pred B
      have p2 := wt_pred (B - 1)
      rcases hd with rfl | rfl | rfl | rfl | rfl <;> omega
    have := sum_all ((naf (n + c) 0).map (·.2)) (fun p => (toT ((p : Nat) : Int)).size) 39 hpl
    rw [hlen] at this
    omega
end Sk

set_option Elab.async false
set_option linter.all false
set_option maxRecDepth 100000
set_option maxHeartbeats 2000000
namespace Sk
open PySem L2 Evl
/-! ### power_rows -/
inductive Rows : Nat → List (Nat × Nat × Nat) → Prop
  | one : Rows 1 []
  | cons {m n l : Nat} {rs : List (Nat × Nat × Nat)} : 1 < m → m ≤ 10000 → IsRow m n l → Rows (n - l) rs → Rows m ((m, n, l) :: rs)
def RowT (x : Nat × Nat × Nat) : VP := fun v H => ∃ q p, v = .ref q ∧ H q = some (.tup [.int (x.1 : Int), .ref p, .int (x.2.2 : Int)]) ∧ H p = some (.lst ((pows x.1 x.2.1).map V.int))
theorem rowT (x : Nat × Nat × Nat) : Mono (RowT x) := fun v H H' e ⟨q, p, h1, h2, h3⟩ => ⟨q, p, h1, e q _ h2, e p _ h3⟩
def pPowerRows : V → Hp → VP → Prop := fun x H R => ∃ m : Nat, x = .int (m : Int) ∧ 1 ≤ m ∧ m ≤ 10000 ∧ R = fun v H' => ∃ rs, Rows m rs ∧ ListR RowT rs v H'
def sp_power_rows (K : PySem.W.Frag) : Sp := spF1 pPowerRows
def t_power_rows (K : PySem.W.Frag) : TS := (tSeq (tAsg (tLst tNil) (gName 1))
    (tSeq (tWhile (tTest (tOp xGt (tVar 0) (tC (.int 1)))) (tSeq (tAsg (tCall (sp_power_row K) [] E0 (tCons (tVar 0) tNil)) (gTup K 2 (gCons (gName 2) (gCons (gName 3) gNil))))
    (tSeq (tDrop (tBM K "list" rAppend (tVar 1) (tCons (tTup (tCons (tVar 0) (tCons (tVar 2) (tCons (tVar 3) tNil)))) tNil)))
    (tAsg (tOp xSub (tCB (rLenS K) (tCons (tVar 2) tNil)) (tVar 3)) (gName 0)))))
    (tRet (tVar 1))))
def RowT' (l : Addr) (x : Nat × Nat × Nat) : VP := fun v H => ∃ q p, v = .ref q ∧ H q = some (.tup [.int (x.1 : Int), .ref p, .int (x.2.2 : Int)]) ∧ H p = some (.lst ((pows x.1 x.2.1).map V.int)) ∧ p ≠ l
def WRows (M : Nat) (l : Addr) (H0 : Hp) (w : Nat) (σ : L2.St) (H : Hp) : Prop := ∃ (m : Nat) (z2 z3 : Option V) (ys : List V) (acc : List (Nat × Nat × Nat)),
  σ = [some (.int (m : Int)), some (.ref l), z2, z3] ∧ w = m ∧ 1 ≤ m ∧ m ≤ 10000 ∧ H0 l = none ∧ Ex H0 H ∧ H l = some (.lst ys) ∧ ItemsR (RowT' l) acc ys H ∧ acc.length + m ≤ 10000 ∧ ∀ rs, Rows m rs → Rows M (acc ++ rs)
theorem pure_power_rows {K : PySem.W.Frag} {vs : List V} {H : Hp} {Q : VK} {E : XK} (h : sp_power_rows K vs H Q E) : t_power_rows K { nx := fun _ H' => Q .non H', rt := Q } (start ["m", "rows", "powers", "lead"] vs) H := by
  obtain ⟨x, R, rfl, ⟨M, rfl, hm1, hm2, rfl⟩, k⟩ := h
  refine q_asgL (el_lst ea_nil (by decide)) fun l H1 hl e1 h1 => ?_
  refine q_while' (WRows M l H) M ⟨M, none, none, [], [], rfl, rfl, hm1, hm2, hl, e1, h1, .nil, by simpa using hm2, fun rs h => h⟩ ?_
  rintro m σ' H' ⟨_, z2, z3, ys, acc, rfl, rfl, h1, h2, hl0, e2, h3, h4, h5, h6⟩
  refine ⟨_, et_test (ev_gt (ev_var rfl) ev_c), fun hb H2 e3 => ?_, fun hb H2 e3 => ?_⟩
  · have hm : 1 < m := by have := of_decide_eq_true hb; omega
    have h3' : H2 l = some (.lst ys) := e3 l _ h3
    refine q_unpack2 (er_call1 (R1 := fun v _ => v = .int (m : Int)) (R := PRow H2 m) (er_is (ev_var rfl)) monoC fun v H4 e4 hv => ⟨m, hv, h1, h2, fun v H' ⟨q, p, n, l, g1, g2, g3, g4, g5⟩ => ⟨q, p, n, l, g1, g2, g3, g4, fresh_back e4 g5⟩⟩) ?_
    rintro v H3 e4 ⟨q, p, n, lead, rfl, g2, g3, g4, g5⟩
    have hpl : p ≠ l := fun e => by rw [e, h3'] at g5; cases g5
    have hsh := g2.short hm
    have hlt := g2.1
    refine ⟨q, _, _, rfl, st_of g3, ?_⟩
    refine q_appU (ys := [.int (m : Int), .ref p, .int (lead : Int)]) (e4 l _ h3') (ev_var rfl) (eu_tup (ea_cons (ev_var rfl) (ea_cons (ev_var rfl) (ea_cons (ev_var rfl) ea_nil))) (by show 3 ≤ 100000; omega)) (by rw [h4.1]; omega) fun r H5 hr e5 h7 => ?_
    have e35 : Ex H' H5 := (e3.trans e4).trans e5
    have hup : ∀ a o, a ≠ l → H5 a = some o → upd H5 l (.lst (ys ++ [.ref r])) a = some o := fun a o ha h => by rw [upd_ne ha]; exact h
    have hrl : r ≠ l := fun e => by rw [e, e35 l _ h3] at h7; cases h7
    refine s_asg (ev_sub (ev_len (xs := (pows m n).map V.int) (ev_var rfl) (sq_of (hup p _ hpl (e5 p _ g4)))) (ev_var rfl)) fun H6 e6 => ?_
    refine ⟨n - lead, hsh, n - lead, some (.ref p), some (.int (lead : Int)), ys ++ [.ref r], acc ++ [(m, n, lead)], ?_, rfl, by omega, by omega, hl0, (Ex.mut (e2.trans e35) hl0).trans e6, e6 l _ upd_same, ?_, by rw [List.length_append]; show acc.length + 1 + (n - lead) ≤ 10000; omega, fun rs hrs => ?_⟩
    · have : (((pows m n).map V.int).length : Int) - (lead : Int) = ((n - lead : Nat) : Int) := by rw [List.length_map, pows_len]; omega
      rw [this] <;> rfl
    · refine ItemsR.snoc (⟨h4.1, fun i y a k1 k2 => ?_⟩) ⟨r, p, rfl, e6 r _ (hup r _ hrl h7), e6 p _ (hup p _ hpl (e5 p _ g4)), hpl⟩
      obtain ⟨q2, p2, j1, j2, j3, j4⟩ := h4.2 i y a k1 k2
      have hq2 : q2 ≠ l := fun e => by rw [e, h3] at j2; cases j2
      exact ⟨q2, p2, j1, e6 _ _ (hup q2 _ hq2 (e35 q2 _ j2)), e6 _ _ (hup p2 _ j4 (e35 p2 _ j3)), j4⟩
    · rw [List.append_assoc]
      exact h6 _ (Rows.cons hm h2 g2 hrs)
  · have hm : m = 1 := by have := of_decide_eq_false hb; omega
    subst hm
    refine s_ret (ev_var rfl) fun H4 e4 => k _ _ ((e2.trans e3).trans e4) ⟨acc, by have := h6 [] Rows.one; rwa [List.append_nil] at this, l, ys, rfl, (e3.trans e4) l _ h3, ?_⟩
    exact (ItemsR.imp h4 fun a y _ ⟨q, p, j1, j2, j3, _⟩ => (⟨q, p, j1, j2, j3⟩ : RowT a y H')).ex rowT (e3.trans e4)
/-! ### number_by_rows, power_by_rows -/
/-- a number in its form, short enough for the machine -/
structure T.ok (t : T) : Prop where
  can : t.can
  nn : t.nn
  len : t.toL.length < 100000
theorem can_toL : ∀ {t : T}, t.can → ∀ x ∈ t.toL, (x.1 = 1 ∨ x.1 = -1) ∧ 0 ≤ x.2.val ∧ x.2.can
  | .nil, _, x, hx => by cases hx
  | .cons s e r, h, x, hx => by
    rcases List.mem_cons.mp hx with rfl | hx
    · exact ⟨h.1.1, h.1.2.1, h.2.1⟩
    · exact can_toL h.2.2 x hx
theorem T.ok.mem {t : T} (h : t.ok) {x : Int × T} (hx : x ∈ t.toL) : (x.1 = 1 ∨ x.1 = -1) ∧ 0 ≤ x.2.val ∧ x.2.ok :=
  ⟨(can_toL h.can x hx).1, (can_toL h.can x hx).2.1, (can_toL h.can x hx).2.2, (nn_toL h.nn x hx).2, (nn_toL h.nn x hx).1.2.2.1⟩
theorem toT_ok {E : Nat} (hE : E ≤ 70000) {n : Int} (h : n.natAbs ≤ 2 ^ E) : (toT n).ok := ⟨toT_can n, toT_nn hE h, Nat.lt_of_le_of_lt (toT_len h) (by omega)⟩
/-- the modulus at a place of the rows -/
def modAt : List (Nat × Nat × Nat) → Nat
  | [] => 1
  | (m, _, _) :: _ => m
theorem Rows.mod {m : Nat} {rs : List (Nat × Nat × Nat)} (h : Rows m rs) : m = modAt rs := by cases h <;> rfl
def RowsOk (rs : List (Nat × Nat × Nat)) : Prop := Rows (modAt rs) rs
def pNum (K : PySem.W.Frag) (d : Nat) : V → V → V → Hp → VP → Prop := fun x y z H R => ∃ (t : T) (rs : List (Nat × Nat × Nat)) (i : Nat), NumV K H x t ∧ ListR RowT rs y H ∧ z = .int (i : Int) ∧ t.ok ∧ t.height < d ∧ d ≤ 45 ∧ i ≤ rs.length ∧ RowsOk (rs.drop i) ∧
  R = fun v _ => v = .int (t.val % (modAt (rs.drop i) : Int))
def pPow (K : PySem.W.Frag) (d : Nat) : V → V → V → Hp → VP → Prop := fun x y z H R => ∃ (e : T) (rs : List (Nat × Nat × Nat)) (i : Nat), NumV K H x e ∧ ListR RowT rs y H ∧ z = .int (i : Int) ∧ e.ok ∧ 0 ≤ e.val ∧ e.height < d ∧ d ≤ 44 ∧ i < rs.length ∧ RowsOk (rs.drop i) ∧
  R = fun v _ => v = .int ((2 ^ e.val.toNat % modAt (rs.drop i) : Nat) : Int)
def sp_number_by_rows (K : PySem.W.Frag) (d : Nat) : Sp := spF3 (pNum K d)
def sp_power_by_rows (K : PySem.W.Frag) (d : Nat) : Sp := spF3 (pPow K d)
def t_number_by_rows (K : PySem.W.Frag) (d : Nat) : TS := (tSeq (tIfS (tTest (tOp rEq (tVar 2) (tCB (rLenS K) (tCons (tVar 1) tNil)))) (tRet (tC (.int 0))) tNext)
    (tRet (tOp xMod (tCB (rSum K) (tCons (tLc (iTup K (tVar 0)) (gTup K 2 (gCons (gName 3) (gCons (gName 4) gNil))) tYes (tOp xMul (tVar 3) (tCall (sp_power_by_rows K d) [] E0 (tCons (tVar 4) (tCons (tVar 1) (tCons (tVar 2) tNil))))) [3, 4]) tNil)) (tOp (rIxT K) (tOp (rIxL K) (tVar 1) (tVar 2)) (tC (.int 0))))))
theorem sum_mod (m : Nat) : ∀ l : List (Int × T), (∀ x ∈ l, 0 ≤ x.2.val) → (l.map fun x => x.1 * ((2 ^ x.2.val.toNat % m : Nat) : Int)).sum % (m : Int) = (ofL l).val % (m : Int)
  | [], _ => rfl
  | (s, e) :: r, h => by
    have ih := sum_mod m r fun x hx => h x (List.mem_cons_of_mem _ hx)
    rw [List.map_cons, List.sum_cons, ofL, T.val, Int.add_emod, ih, Int.add_emod (s * 2 ^ e.val.toNat)]
    congr 2
    show s * ((2 ^ e.val.toNat % m : Nat) : Int) % (m : Int) = _
    rw [Int.natCast_emod, Int.mul_emod, Int.emod_emod, ← Int.mul_emod]
    norm_cast
theorem drop_at {α : Type} {l : List α} {i : Nat} {a : α} (h : l[i]? = some a) : l.drop i = a :: l.drop (i + 1) := by
  have hlt : i < l.length := (List.getElem?_eq_some_iff.mp h).1
  rw [List.drop_eq_getElem_cons hlt]
  congr 1
  exact (List.getElem?_eq_some_iff.mp h).2
theorem listRT {rs : List (Nat × Nat × Nat)} : Mono (ListR RowT rs) := fun v H H' e ⟨p, ys, h1, h2, h3⟩ => ⟨p, ys, h1, e p _ h2, h3.ex rowT e⟩
theorem atI_of {xs : List V} {i : Nat} {v : V} (h : xs[i]? = some v) : atI xs (i : Int) = some v := atI_nat h
theorem pure_number_by_rows {K : PySem.W.Frag} {d : Nat} {vs : List V} {H : Hp} {Q : VK} {E : XK} (h : sp_number_by_rows K (d + 1) vs H Q E) : t_number_by_rows K d { nx := fun _ H' => Q .non H', rt := Q } (start ["x", "rows", "at", "sign", "exponent"] vs) H := by
  obtain ⟨x, y, z, R, rfl, ⟨t, rs, i, hx, hr, rfl, hok, hh, hd, hi, hrs, rfl⟩, k⟩ := h
  obtain ⟨p, ys, rfl, hp, hys⟩ := _root_.id hr
  refine q_when (et_test (ev_eq (ev_var rfl) (ev_len (ev_var rfl) (sq_of hp)) rfl)) (fun hc H1 e1 => ?_) (fun hc H1 e1 => ?_)
  · have hc' : (i : Int) = (ys.length : Int) := V.int.inj (of_decide_eq_true hc)
    have : rs.drop i = [] := List.drop_eq_nil_of_le (by have := hys.1; omega)
    refine s_ret ev_c fun H2 e2 => k _ _ (e1.trans e2) ?_
    show V.int 0 = _
    rw [this]
    exact congrArg V.int (Int.emod_one _).symm
  · have hne : ¬ (i : Int) = (ys.length : Int) := fun e => (of_decide_eq_false hc) (by rw [e])
    have hlt : i < rs.length := by have := hys.1; omega
    obtain ⟨⟨m, n, l⟩, hrow⟩ : ∃ r, rs[i]? = some r := ⟨_, List.getElem?_eq_getElem hlt⟩
    obtain ⟨w, hw, q, pp, rfl, hq, hpp⟩ := hys.at hrow
    have hdrop := drop_at hrow
    rw [hdrop] at hrs
    have hm : 1 < m ∧ m ≤ 10000 := by cases hrs with | cons h1 h2 _ _ => exact ⟨h1, h2⟩
    obtain ⟨a, xs, rfl, hs, ht⟩ := hx.out
    have hit := items_terms ht
    refine s_ret (ev_mod (ev_sum (l := t.toL.map fun x => x.1 * ((2 ^ x.2.val.toNat % m : Nat) : Int)) ?_) (ev_atT (ev_at (ev_var rfl) (ev_var rfl) (sq_of (e1 p _ hp)) (atI_of hw)) ev_c (st_of (e1 q _ hq)) (at_of (j := 0) rfl rfl)) (by show (0 : Int) < (m : Int); omega)) fun H2 e2 => k _ _ (e1.trans e2) ?_
    · refine (er_lcIT (R1 := TermI K) (R2 := fun x => IntI (x.1 * ((2 ^ x.2.val.toNat % m : Nat) : Int))) (l := t.toL) (er_var rfl fun H2 e2 => ⟨a, xs, rfl, ex_t (e1.trans e2) hs, hit.ex (fun b => (termI b).mono) (e1.trans e2)⟩) (fun b => (termI b).mono) (fun a => intI _) hok.len ?_).imp fun v H1 e ⟨p, ys, h1, h2, h3, h4⟩ => ⟨p, ys, h1, sq_of h3, ⟨by rw [List.length_map]; exact h4.1, fun i y a g1 g2 => ?_⟩⟩
      · rintro j ⟨s, e⟩ x H2 hj ⟨q, w, rfl, hq2, hw2⟩ e2 Qk kk
        have hmem : (s, e) ∈ t.toL := List.mem_of_getElem? hj
        obtain ⟨hsg, hev, heok⟩ := hok.mem hmem
        have hhe := T.height_mem hmem
        have hhe' : e.height < t.height := hhe
        refine g_pair hq2 ⟨rfl, ?_⟩
        refine ev_mul (i := s) (j := ((2 ^ e.val.toNat % m : Nat) : Int)) (ev_var rfl) (ev_er (er_call3 (R1 := fun v H => NumV K H v e) (R2 := ListR RowT rs) (R3 := fun v _ => v = .int (i : Int)) (er_var rfl fun H1 e1 => hw2.ex e1) numT.mono (er_var rfl fun H3 e3 => listRT _ _ _ (e1.trans (e2.trans e3)) hr) listRT (er_is (ev_var rfl)) monoC fun v v' v'' H3 e3 g1 g2 g3 => ⟨e, rs, i, g1, g2, g3, heok, hev, by omega, by omega, hlt, by rw [hdrop]; exact hrs, by rw [hdrop] <;> rfl⟩)) (.inl (by rcases hsg with h | h <;> (have h' : s = _ := h; subst h'; decide))) H2 (Ex.refl _) _ fun H3 e3 => kk _ _ e3 rfl
      · rw [List.getElem?_map] at g2
        cases hq : t.toL[i]? with
        | none => rw [hq] at g2; cases g2
        | some z => rw [hq] at g2; cases g2; exact h4.2 i y z g1 hq
    · show V.int _ = V.int _
      rw [hdrop, sum_mod m t.toL fun x hx => (hok.mem hx).2.1, ofL_toL] <;> rfl
theorem q_unpack3 {K : PySem.W.Frag} {σ : L2.St} {H : Hp} {te : TE} {R : VP} {D : Ends} {tz : TS} {i j l : Nat} (h : ER te σ H R) (hR : ∀ v H1, Ex H H1 → R v H1 → ∃ a x y z, v = .ref a ∧ SqT K H1 a [x, y, z] ∧ tz D (((σ.set i (some x)).set j (some y)).set l (some z)) H1) :
    tSeq (tAsg te (gTup K 3 (gCons (gName i) (gCons (gName j) (gCons (gName l) gNil))))) tz D σ H := h H (Ex.refl H) _ fun v H1 e r => by
  obtain ⟨a, x, y, z, rfl, hs, q⟩ := hR v H1 e r
  exact g_trip (Q := fun σ' H' => tz D σ' H') hs q
def t_power_by_rows (K : PySem.W.Frag) (d : Nat) : TS := (tSeq (tAsg (tOp (rIxL K) (tVar 1) (tVar 2)) (gTup K 3 (gCons (gName 5) (gCons (gName 6) (gCons (gName 7) gNil)))))
    (tSeq (tAsg (tCall (sp_value_within K 45) [] E0 (tCons (tVar 0) (tCons (tBits (tVar 7)) tNil))) (gName 3))
    (tSeq (tIfS (tAnd (tTest (tOp xNotN (tVar 3) (tC .non))) (tTest (tOp xLt (tVar 3) (tVar 7)))) (tRet (tOp (rIxL K) (tVar 6) (tVar 3))) tNext)
    (tSeq (tAsg (tOp xSub (tCall (sp_number_by_rows K d) [] E0 (tCons (tVar 0) (tCons (tVar 1) (tCons (tOp xAdd (tVar 2) (tC (.int 1))) tNil)))) (tVar 7)) (gName 4))
    (tRet (tOp (rIxL K) (tVar 6) (tOp xAdd (tVar 7) (tOp xMod (tVar 4) (tOp xSub (tCB (rLenS K) (tCons (tVar 6) tNil)) (tVar 7))))))))))
theorem pows_at {m n i : Nat} (h : i < n) : ((pows m n).map V.int)[i]? = some (.int ((2 ^ i % m : Nat) : Int)) := by
  unfold pows
  rw [List.map_map, List.getElem?_map, List.getElem?_range h] <;> rfl
theorem pure_power_by_rows {K : PySem.W.Frag} {d : Nat} {vs : List V} {H : Hp} {Q : VK} {E : XK} (h : sp_power_by_rows K d vs H Q E) : t_power_by_rows K d { nx := fun _ H' => Q .non H', rt := Q } (start ["exponent", "rows", "at", "place", "turns", "_", "powers", "lead"] vs) H := by
  obtain ⟨x, y, z, R, rfl, ⟨e, rs, i, hx, hr, rfl, hok, hev, hh, hd, hi, hrs, rfl⟩, k⟩ := h
  obtain ⟨p, ys, rfl, hp, hys⟩ := _root_.id hr
  obtain ⟨⟨m, n, l⟩, hrow⟩ : ∃ r, rs[i]? = some r := ⟨_, List.getElem?_eq_getElem hi⟩
  obtain ⟨w, hw, q, pp, rfl, hq, hpp⟩ := hys.at hrow
  have hdrop := drop_at hrow
  rw [hdrop] at hrs
  have hrs' : 1 < m ∧ m ≤ 10000 ∧ IsRow m n l ∧ Rows (n - l) (rs.drop (i + 1)) := by cases hrs with | cons h1 h2 h3 h4 => exact ⟨h1, h2, h3, h4⟩
  obtain ⟨hm1, hm2, hir, hnext⟩ := hrs'
  have hle := hir.le (by omega)
  have hln := hir.1
  have hval : modAt (rs.drop i) = m := by rw [hdrop] <;> rfl
  rw [hval] at k
  refine q_unpack3 (er_is (ev_at (ev_var rfl) (ev_var rfl) (sq_of hp) (atI_of hw))) ?_
  rintro v H1 e1 rfl
  refine ⟨q, _, _, _, rfl, st_of (e1 q _ hq), ?_⟩
  refine q_asgR (R := fun v _ => v = optV (e.within (bl l))) (er_call2 (R1 := fun v H => NumV K H v e) (R2 := fun v _ => v = .int (bl l : Nat)) (er_var rfl fun H2 e2 => hx.ex (e1.trans e2)) numT.mono (er_is (by rw [← intBits_bl]; exact ev_bits (ev_var rfl))) monoC ?_) fun v H2 e2 hv => ?_
  · rintro v w' H2 e2 h1 rfl
    exact ⟨e, bl l, h1, rfl, hok.nn, by omega, by have := bl_le l; omega, hok.len, rfl⟩
  subst hv
  have hmain : l ≤ e.val.toNat → ∀ H3, Ex H2 H3 → ∀ z4 : Option V, tSeq (tAsg (tOp xSub (tCall (sp_number_by_rows K d) [] E0 (tCons (tVar 0) (tCons (tVar 1) (tCons (tOp xAdd (tVar 2) (tC (.int 1))) tNil)))) (tVar 7)) (gName 4))
      (tRet (tOp (rIxL K) (tVar 6) (tOp xAdd (tVar 7) (tOp xMod (tVar 4) (tOp xSub (tCB (rLenS K) (tCons (tVar 6) tNil)) (tVar 7)))))) { nx := fun _ H' => Q .non H', rt := Q }
      [some x, some (.ref p), some (.int (i : Int)), some (optV (e.within (bl l))), z4, some (.int (m : Int)), some (.ref pp), some (.int (l : Int))] H3 := by
    intro hl H3 e3 z4
    refine q_asg (ev_sub (i := e.val % ((n - l : Nat) : Int)) (ev_er (er_call3 (R1 := fun v H => NumV K H v e) (R2 := ListR RowT rs) (R3 := fun v _ => v = .int ((i + 1 : Nat) : Int)) (er_var rfl fun H4 e4 => hx.ex ((e1.trans e2).trans (e3.trans e4))) numT.mono (er_var rfl fun H4 e4 => listRT _ _ _ ((e1.trans e2).trans (e3.trans e4)) hr) listRT (er_is (ev_is (ev_add (ev_var rfl) ev_c) (congrArg V.int (by omega)))) monoC
      fun v v' v'' H4 e4 g1 g2 g3 => ⟨e, rs, i + 1, g1, g2, g3, hok, hh, by omega, by omega, by unfold RowsOk; rw [← hnext.mod]; exact hnext, by rw [← hnext.mod]⟩)) (ev_var rfl)) fun H4 e4 => ?_
    have hnl : 0 < n - l := by omega
    have hidx : (l : Int) + (e.val % ((n - l : Nat) : Int) - (l : Int)) % (((((pows m n).map V.int).length : Nat) : Int) - (l : Int)) = ((l + (e.val.toNat - l) % (n - l) : Nat) : Int) := by
      rw [List.length_map, pows_len, show (n : Int) - (l : Int) = ((n - l : Nat) : Int) by omega, Int.emod_sub_emod]
      have h1 : e.val - (l : Int) = ((e.val.toNat - l : Nat) : Int) := by omega
      rw [h1]
      norm_cast
    have hpp' : ∀ H5, Ex H4 H5 → H5 pp = some (.lst ((pows m n).map V.int)) := fun H5 e5 => (e1.trans (e2.trans (e3.trans (e4.trans e5)))) pp _ hpp
    refine s_ret (v := .int ((2 ^ e.val.toNat % m : Nat) : Int)) (ev_at (ev_var rfl) (ev_add (ev_var rfl) (ev_mod (ev_var rfl) (ev_sub (ev_len (xs := (pows m n).map V.int) (ev_var rfl) (sq_of (hpp' H4 (Ex.refl _)))) (ev_var rfl)) (by rw [List.length_map, pows_len]; omega))) (sq_of (hpp' H4 (Ex.refl _))) ?_) fun H5 e5 => k _ _ ((e1.trans e2).trans (e3.trans (e4.trans e5))) rfl
    rw [hidx, hir.turn hl]
    exact atI_of (pows_at (by have := Nat.mod_lt (e.val.toNat - l) hnl; omega))
  cases hq2 : e.within (bl l) with
  | none =>
    have hbig := can_none hok.can hq2
    have hl : l ≤ e.val.toNat := by
      have := lt_bl l
      omega
    refine q_when (b := false) (et_and (a := false) (b := true) (et_test (ev_is (ev_notN (ev_var rfl)) rfl)) (fun h => by cases h)) (fun h => by cases h) fun _ H3 e3 => ?_
    have := hmain hl H3 e3 none
    rw [hq2] at this
    exact this
  | some qv =>
    have hqv := within_val _ _ _ hq2
    refine q_when (b := decide (qv < (l : Int))) (et_is (et_and (a := true) (b := decide (qv < (l : Int))) (et_test (ev_is (ev_notN (ev_var rfl)) rfl)) fun _ => et_test (ev_lt (ev_var rfl) (ev_var rfl))) (Bool.true_and _)) (fun hc H3 e3 => ?_) (fun hc H3 e3 => ?_)
    · have hc' := of_decide_eq_true hc
      refine s_ret (v := .int ((2 ^ e.val.toNat % m : Nat) : Int)) (ev_at (k := qv) (ev_var rfl) (ev_var rfl) (sq_of ((e1.trans (e2.trans e3)) pp _ hpp)) ?_) fun H4 e4 => k _ _ ((e1.trans e2).trans (e3.trans e4)) rfl
      have hc2 : qv < (l : Int) := hc'
      have hq3 : qv = ((e.val.toNat : Nat) : Int) := by omega
      have hlt : e.val.toNat < n := by omega
      rw [hq3]
      exact atI_of (pows_at hlt)
    · have hc' := of_decide_eq_false hc
      have := hmain (by omega) H3 e3 none
      rw [hq2] at this
      exact this
end Sk

set_option Elab.async false
set_option linter.all false
set_option maxRecDepth 100000
set_option maxHeartbeats 2000000
namespace Sk
open PySem L2 Evl
/-! ### remainder, power_remainder, powers_of_two -/
def pRem (K : PySem.W.Frag) (CN : Addr) : V → V → Hp → VP → WP → Prop := fun x y H R W => ∃ (t : T) (m : Int), NumV K H x t ∧ y = .int m ∧ t.ok ∧ t.height < 44 ∧ (1 ≤ m ∧ m ≤ 10000 → ∀ H', R (.int (t.val % m)) H') ∧ (¬ (1 ≤ m ∧ m ≤ 10000) → W CN)
def sp_remainder (K : PySem.W.Frag) (CN : Addr) : Sp := spX2 K (pRem K CN)
def t_remainder (K : PySem.W.Frag) (a_NotAllowed : Addr) (E : XK) : TS := (tSeq (tDrop (tCall (sp_check_modulus K a_NotAllowed) [] E (tCons (tVar 1) tNil)))
    (tRet (tCall (sp_number_by_rows K 45) [] E0 (tCons (tVar 0) (tCons (tCall (sp_power_rows K) [] E0 (tCons (tVar 1) tNil)) (tCons (tC (.int 0)) tNil))))))
/-- the modulus is looked at: it is fine, or the error is due -/
theorem x_check {K : PySem.W.Frag} {CN : Addr} {σ : L2.St} {H : Hp} {te : TE} {E : XK} {m : Int} {Q : VK} (h : Ev te σ H (.int m)) (k1 : 1 ≤ m ∧ m ≤ 10000 → ∀ H1, Ex H H1 → Q .non H1) (k2 : ¬ (1 ≤ m ∧ m ≤ 10000) → ∀ H1, Ex H H1 → ∀ d, ErrAt K CN d H1 → E (.ref CN) (some d) H1) : tCall (sp_check_modulus K CN) [] E (tCons te tNil) σ H Q :=
  x_call1 (R1 := fun v _ => v = .int m) (er_is h) monoC Q fun v H1 e1 hv =>
    ⟨fun v _ => v = .non ∧ (1 ≤ m ∧ m ≤ 10000), fun C => C = CN ∧ ¬ (1 ≤ m ∧ m ≤ 10000), ⟨m, hv, fun hm _ => ⟨rfl, hm⟩, fun hm => ⟨rfl, hm⟩⟩, fun w H2 e2 ⟨hw, hm⟩ => by rw [hw]; exact k1 hm H2 (e1.trans e2), fun C H2 e2 ⟨hC, hm⟩ => by rw [hC]; exact k2 hm H2 (e1.trans e2)⟩
theorem pure_remainder {K : PySem.W.Frag} {CN : Addr} {vs : List V} {H : Hp} {Q : VK} {E : XK} (h : sp_remainder K CN vs H Q E) : t_remainder K CN E { nx := fun _ H' => Q .non H', rt := Q } (start ["x", "m"] vs) H := by
  obtain ⟨x, y, R, W, rfl, ⟨t, m, hx, rfl, hok, hh, h1, h2⟩, k, kE⟩ := h
  refine x_check (m := m) (ev_var rfl) (fun hm H1 e1 => ?_) (fun hm H1 e1 => kE CN H1 e1 (h2 hm))
  obtain ⟨mn, rfl⟩ : ∃ mn : Nat, m = (mn : Int) := ⟨m.toNat, by omega⟩
  refine s_retR (R := fun v _ => v = .int (t.val % (mn : Int))) (er_call3 (R1 := fun v H => NumV K H v t) (R2 := fun v H' => ∃ rs, Rows mn rs ∧ ListR RowT rs v H') (R3 := fun v _ => v = .int ((0 : Nat) : Int)) (er_var rfl fun H2 e2 => hx.ex (e1.trans e2)) numT.mono
    (er_call1 (R1 := fun v _ => v = .int (mn : Int)) (er_is (ev_var rfl)) monoC fun v H2 e2 hv => ⟨mn, hv, by omega, by omega, rfl⟩) (fun v Ha Hb e ⟨rs, g1, g2⟩ => ⟨rs, g1, listRT _ _ _ e g2⟩) (er_is ev_c) monoC
    fun v v' v'' H2 e2 g1 ⟨rs, g2, g3⟩ g4 => ⟨t, rs, 0, g1, g3, g4, hok, by omega, Nat.le_refl _, Nat.zero_le _, by show RowsOk rs; unfold RowsOk; rw [← g2.mod]; exact g2, by rw [List.drop_zero, ← g2.mod]⟩) fun v H2 e2 hv => ?_
  subst hv
  exact k _ _ (e1.trans e2) (h1 hm _)
def pPowRem (K : PySem.W.Frag) (CN : Addr) : V → V → Hp → VP → WP → Prop := fun x y H R W => ∃ (e : T) (m : Int), NumV K H x e ∧ y = .int m ∧ e.ok ∧ e.height < 43 ∧ ((1 ≤ m ∧ m ≤ 10000) ∧ 0 ≤ e.val → ∀ H', R (.int (2 ^ e.val.toNat % m)) H') ∧ (¬ ((1 ≤ m ∧ m ≤ 10000) ∧ 0 ≤ e.val) → W CN)
def sp_power_remainder (K : PySem.W.Frag) (CN : Addr) : Sp := spX2 K (pPowRem K CN)
def t_power_remainder (K : PySem.W.Frag) (a_NotAllowed : Addr) (E : XK) : TS := (tSeq (tDrop (tCall (sp_check_modulus K a_NotAllowed) [] E (tCons (tVar 1) tNil)))
    (tSeq (tIfS (tTest (tOp xLt (tCall (sp_sign_of K) [] E0 (tCons (tVar 0) tNil)) (tC (.int 0)))) (tRaise K E a_NotAllowed) tNext)
    (tRet (tCall (sp_remainder K a_NotAllowed) [] E (tCons (tTup (tCons (tTup (tCons (tC (.int 1)) (tCons (tVar 0) tNil))) tNil)) (tCons (tVar 1) tNil))))))
theorem ev_sign {K : PySem.W.Frag} {σ : L2.St} {H : Hp} {te : TE} {t : T} (h : ER te σ H (fun v H' => NumV K H' v t)) : Ev (tCall (sp_sign_of K) [] E0 (tCons te tNil)) σ H (.int t.sgn) :=
  ev_er (er_call1 (R1 := fun v H => NumV K H v t) h numT.mono fun v H1 e1 hv => ⟨t, hv, rfl⟩)
theorem pow_ok {e : T} (h : e.ok) (h0 : 0 ≤ e.val) : (T.cons 1 e .nil).ok :=
  ⟨⟨⟨.inl rfl, h0, h0⟩, h.can, True.intro⟩, ⟨⟨.inl rfl, h0, h.len, h.can⟩, h.nn, True.intro⟩, by show 1 < 100000; omega⟩
theorem pow_val (e : T) : (T.cons 1 e .nil).val = 2 ^ e.val.toNat := by show 1 * 2 ^ e.val.toNat + 0 = _; omega
theorem pure_power_remainder {K : PySem.W.Frag} {CN : Addr} {vs : List V} {H : Hp} {Q : VK} {E : XK} (h : sp_power_remainder K CN vs H Q E) : t_power_remainder K CN E { nx := fun _ H' => Q .non H', rt := Q } (start ["exponent", "m"] vs) H := by
  obtain ⟨x, y, R, W, rfl, ⟨e, m, hx, rfl, hok, hh, h1, h2⟩, k, kE⟩ := h
  refine x_check (m := m) (ev_var rfl) (fun hm H1 e1 => ?_) (fun hm H1 e1 => kE CN H1 e1 (h2 fun q => hm q.1))
  have hsg := can_sgn hok.can
  refine q_when (et_test (ev_lt (ev_sign (er_var rfl fun H2 e2 => hx.ex (e1.trans e2))) ev_c)) (fun hc H2 e2 => ?_) (fun hc H2 e2 => ?_)
  · have := of_decide_eq_true hc
    exact fun Hz ez => kE CN Hz ((e1.trans e2).trans ez) (h2 fun q => by have := q.2; omega)
  · have hs : ¬ e.sgn < 0 := of_decide_eq_false hc
    have h0 : 0 ≤ e.val := by omega
    have hnum : ER (tTup (tCons (tTup (tCons (tC (.int 1)) (tCons (tVar 0) tNil))) tNil)) [some x, some (.int m)] H2 (fun v H' => NumV K H' v (T.cons 1 e .nil)) :=
      (er_tup (ea_one (er_tup (ea_two (R := fun v _ => v = .int 1) (R' := fun v H => NumV K H v e) (er_is ev_c) monoC (er_var rfl fun H3 e3 => hx.ex ((e1.trans e2).trans e3)) numT.mono) (fun vs H3 H4 e ⟨v, w, g1, g2, g3⟩ => ⟨v, w, g1, g2, g3.ex e⟩) (fun vs H3 ⟨v, w, g1, _⟩ => by rw [g1]; show 2 ≤ 100000; omega))
        (fun v Ha Hb e ⟨p, vs, g1, g2, v', w, g3, g4, g5⟩ => ⟨p, vs, g1, e p _ g2, v', w, g3, g4, g5.ex e⟩)) (fun vs Ha Hb e ⟨v, hv, p, vs', g1, g2, v', w, g3, g4, g5⟩ => ⟨v, hv, p, vs', g1, e p _ g2, v', w, g3, g4, g5.ex e⟩) (fun vs H3 ⟨v, hv, _⟩ => by rw [hv]; show 1 ≤ 100000; omega)).imp
        fun v H3 e3 ⟨p, vs, g0, g1, v', hv', q, vs', g2, g3, u, w, g4, g5, g6⟩ => by
          subst g0 hv' g2 g4 g5
          exact NumV.mk (st_of g1) (TermsV.cons (st_of g3) g6 TermsV.nil)
    refine x_call2 (R1 := fun v H => NumV K H v (T.cons 1 e .nil)) (R2 := fun v _ => v = .int m) hnum numT.mono (er_is (ev_var rfl)) monoC _ fun v v' H3 e3 g1 g2 =>
      ⟨R, W, ⟨_, m, g1, g2, pow_ok hok h0, by show max (e.height + 1) 0 < 44; omega, fun hm' H' => by rw [pow_val]; exact h1 ⟨hm', h0⟩ H', fun hm' => absurd hm hm'⟩, fun w H4 e4 hw => k _ _ ((e1.trans e2).trans (e3.trans e4)) hw, fun C H4 e4 hw => kE C H4 ((e1.trans e2).trans (e3.trans e4)) hw⟩
def pPowsTwo (CN : Addr) : V → Hp → VP → WP → Prop := fun x H R W => ∃ m : Int, x = .int m ∧ (1 ≤ m ∧ m ≤ 10000 → ∀ (n l : Nat) (q : Addr) H', IsRow m.toNat n l → H' q = some (.tup [.int (l : Int), .int ((n - l : Nat) : Int)]) → R (.ref q) H') ∧ (¬ (1 ≤ m ∧ m ≤ 10000) → W CN)
def sp_powers_of_two (K : PySem.W.Frag) (CN : Addr) : Sp := spX1 K (pPowsTwo CN)
def t_powers_of_two (K : PySem.W.Frag) (a_NotAllowed : Addr) (E : XK) : TS := (tSeq (tDrop (tCall (sp_check_modulus K a_NotAllowed) [] E (tCons (tVar 0) tNil)))
    (tSeq (tAsg (tCall (sp_power_row K) [] E0 (tCons (tVar 0) tNil)) (gTup K 2 (gCons (gName 1) (gCons (gName 2) gNil))))
    (tRet (tTup (tCons (tVar 2) (tCons (tOp xSub (tCB (rLenS K) (tCons (tVar 1) tNil)) (tVar 2)) tNil))))))
theorem pure_powers_of_two {K : PySem.W.Frag} {CN : Addr} {vs : List V} {H : Hp} {Q : VK} {E : XK} (h : sp_powers_of_two K CN vs H Q E) : t_powers_of_two K CN E { nx := fun _ H' => Q .non H', rt := Q } (start ["m", "powers", "lead"] vs) H := by
  obtain ⟨x, R, W, rfl, ⟨m, rfl, h1, h2⟩, k, kE⟩ := h
  refine x_check (m := m) (ev_var rfl) (fun hm H1 e1 => ?_) (fun hm H1 e1 => kE CN H1 e1 (h2 hm))
  obtain ⟨mn, rfl⟩ : ∃ mn : Nat, m = (mn : Int) := ⟨m.toNat, by omega⟩
  refine q_unpack2 (er_call1 (R1 := fun v _ => v = .int (mn : Int)) (R := PRow H1 mn) (er_is (ev_var rfl)) monoC fun v H4 e4 hv => ⟨mn, hv, by omega, by omega, fun v H' ⟨q, p, n, l, g1, g2, g3, g4, g5⟩ => ⟨q, p, n, l, g1, g2, g3, g4, fresh_back e4 g5⟩⟩) ?_
  rintro v H2 e2 ⟨q, p, n, l, rfl, g2, g3, g4, g5⟩
  have hln := g2.1
  refine ⟨q, _, _, rfl, st_of g3, ?_⟩
  refine s_retU (eu_tup (vs := [.int (l : Int), .int ((n - l : Nat) : Int)]) (ea_cons (ev_var rfl) (ea_cons (ev_is (ev_sub (ev_len (xs := (pows mn n).map V.int) (ev_var rfl) (sq_of g4)) (ev_var rfl)) ?_) ea_nil)) (by show 2 ≤ 100000; omega)) fun r H3 _ e3 h3 => k _ _ ((e1.trans e2).trans e3) (h1 hm n l r _ g2 h3)
  rw [List.length_map, pows_len]
  exact congrArg V.int (by omega)
end Sk

set_option Elab.async false
set_option linter.all false
set_option maxRecDepth 100000
set_option maxHeartbeats 2000000
namespace Sk
open PySem L2 Evl
section
variable {K : PySem.W.Frag} {σ : L2.St} {H : Hp} {ta tb : TE} {tx : TA}
/-- [a, b, ..][k] -/
theorem ev_pickL {xs : List V} {k : Nat} {v : V} (h : EvA tx σ H xs) (hz : xs.length ≤ 1000) (hk : Ev tb σ H (.int (k : Int))) (hv : xs[k]? = some v) : Ev (tOp (rIxL K) (tLst tx) tb) σ H v :=
  ev_opL1 (el_lst h (by omega)) (fun H1 e => hk.mono e) fun p H1 hp e => rv_ixL (sq_of hp) (atI_nat hv)
theorem ints_at {l : List Int} {i : Nat} (h : i < l.length) : atI (l.map V.int) (i : Int) = some (.int (l.getD i 0)) := by
  refine atI_nat ?_
  rw [List.getElem?_map, List.getElem?_eq_getElem h, List.getD_eq_getElem?_getD, List.getElem?_eq_getElem h] <;> rfl
theorem getD_mem {l : List Int} {i : Nat} (h : i < l.length) : l.getD i 0 ∈ l := by
  rw [List.getD_eq_getElem?_getD, List.getElem?_eq_getElem h]
  exact List.getElem_mem h
theorem ev_ints {a : Addr} {l : List Int} {i : Nat} {k : Int} (ho : Ev ta σ H (.ref a)) (hi : Ev tb σ H (.int k)) (hk : k = (i : Int)) (hs : SqL K H a (l.map V.int)) (h : i < l.length) : Ev (tOp (rIxL K) ta tb) σ H (.int (l.getD i 0)) :=
  ev_at ho hi hs (by rw [hk]; exact ints_at h)
end
/-- a list of ints -/
def IntsL (l : List Int) : VP := fun v H => ∃ p, v = .ref p ∧ H p = some (.lst (l.map V.int))
theorem intsL (l : List Int) : Mono (IntsL l) := fun v H H' e ⟨p, h1, h2⟩ => ⟨p, h1, e p _ h2⟩
/-! ### the law's draws -/
def pCell (K : PySem.W.Frag) : V → V → Hp → VP → Prop := fun x y H R => ∃ (a : Addr) (ns : List Int) (i : Nat), x = .ref a ∧ SqL K H a (ns.map V.int) ∧ y = .int (i : Int) ∧ R = fun v _ => ∃ c : Int, v = .int c
def sp_law_cell (K : PySem.W.Frag) : Sp := spF2 (pCell K)
def t_law_cell (K : PySem.W.Frag) : TS := (tSeq (tIfS (tTest (tOp xLt (tVar 1) (tCB (rLenS K) (tCons (tVar 0) tNil)))) (tRet (tOp (rIxL K) (tVar 0) (tVar 1))) tNext)
    (tRet (tC (.int 0))))
theorem pure_law_cell {K : PySem.W.Frag} {vs : List V} {H : Hp} {Q : VK} {E : XK} (h : sp_law_cell K vs H Q E) : t_law_cell K { nx := fun _ H' => Q .non H', rt := Q } (start ["script", "k"] vs) H := by
  obtain ⟨x, y, R, rfl, ⟨a, ns, i, rfl, hs, rfl, rfl⟩, k⟩ := h
  refine q_when (et_test (ev_lt (ev_var rfl) (ev_len (ev_var rfl) hs))) (fun hc H1 e1 => ?_) (fun hc H1 e1 => ?_)
  · have h1 := of_decide_eq_true hc
    rw [List.length_map] at h1
    exact s_ret (ev_ints (ev_var rfl) (ev_var rfl) rfl (ex_l e1 hs) (by omega)) fun H2 e2 => k _ _ (e1.trans e2) ⟨_, rfl⟩
  · exact s_ret ev_c fun H2 e2 => k _ _ (e1.trans e2) ⟨_, rfl⟩
/-- so many numbers, each from 0 to 999 -/
def Drawn (n : Nat) : VP := fun v H => ∃ l : List Int, l.length = n ∧ (∀ x ∈ l, 0 ≤ x ∧ x < 1000) ∧ IntsL l v H
theorem drawn (n : Nat) : Mono (Drawn n) := fun v H H' e ⟨l, h1, h2, h3⟩ => ⟨l, h1, h2, intsL l _ _ _ e h3⟩
def pNumbers : V → V → V → Hp → VP → Prop := fun x y z H R => ∃ (c k : Int) (n : Nat), x = .int c ∧ y = .int k ∧ z = .int (n : Int) ∧ n ≤ 1000 ∧ R = Drawn n
def sp_law_numbers (K : PySem.W.Frag) : Sp := spF3 pNumbers
def t_law_numbers (K : PySem.W.Frag) : TS := (tSeq (tAsg (tLst tNil) (gName 3))
    (tSeq (tIfS (tTest (tOp xGe (tVar 0) (tOp xPow (tC (.int 10)) (tC (.int 18))))) (tSeq (tAsg (tVar 0) (gName 6))
    (tSeq (tFor (iRng1 (tCons (tVar 2) tNil)) (gName 5) (tSeq (tDrop (tBM K "list" rAppend (tVar 3) (tCons (tOp xMod (tCB xInt1 (tCons (tVar 6) tNil)) (tC (.int 1000))) tNil)))
    (tAsg (tOp xFdiv (tVar 6) (tC (.int 1000))) (gName 6))))
    (tRet (tVar 3)))) tNext)
    (tSeq (tAsg (tOp xMod (tCB xInt1 (tCons (tOp xAdd (tOp xAdd (tOp xMul (tVar 0) (tC (.int 48271))) (tOp xMul (tVar 1) (tC (.int 69621)))) (tC (.int 11))) tNil)) (tC (.int 2147483647))) (gName 4))
    (tSeq (tFor (iRng1 (tCons (tVar 2) tNil)) (gName 5) (tSeq (tAsg (tOp xMod (tCB xInt1 (tCons (tOp xAdd (tOp xAdd (tOp xMul (tVar 4) (tC (.int 16807))) (tOp xMul (tVar 5) (tC (.int 7919)))) (tC (.int 13))) tNil)) (tC (.int 2147483647))) (gName 4))
    (tSeq (tAsg (tOp xMod (tCB xInt1 (tCons (tOp xAdd (tOp xAdd (tOp xMul (tVar 4) (tVar 4)) (tOp xMul (tVar 1) (tC (.int 31)))) (tVar 5)) tNil)) (tC (.int 1000000007))) (gName 7))
    (tDrop (tBM K "list" rAppend (tVar 3) (tCons (tOp xMod (tCB xInt1 (tCons (tOp xFdiv (tVar 7) (tC (.int 101))) tNil)) (tC (.int 1000))) tNil))))))
    (tRet (tVar 3))))))
def WDraw (x y z : V) (l : Addr) (H0 : Hp) (ok : Int → Prop) (i : Nat) (σ : L2.St) (H : Hp) : Prop := ∃ (z4 z5 z6 z7 : Option V) (m : Int) (b : Bool) (ns : List Int),
  σ = [some x, some y, some z, some (.ref l), if b then some (.int m) else z4, z5, if b then z6 else some (.int m), z7] ∧ H0 l = none ∧ Ex H0 H ∧ H l = some (.lst (ns.map V.int)) ∧ ns.length = i ∧ ∀ v ∈ ns, 0 ≤ v ∧ v < 1000
theorem pure_law_numbers {K : PySem.W.Frag} {vs : List V} {H : Hp} {Q : VK} {E : XK} (h : sp_law_numbers K vs H Q E) : t_law_numbers K { nx := fun _ H' => Q .non H', rt := Q } (start ["cell", "k", "many", "numbers", "mixed", "j", "rest", "twice"] vs) H := by
  obtain ⟨x, y, z, R, rfl, ⟨c, kk, n, rfl, rfl, rfl, hn, rfl⟩, k⟩ := h
  refine q_asgL (el_lst ea_nil (by decide)) fun l H1 hl e1 h1 => ?_
  have snoc : ∀ {ns : List Int} {v : Int}, (∀ w ∈ ns, 0 ≤ w ∧ w < 1000) → 0 ≤ v ∧ v < 1000 → ∀ w ∈ ns ++ [v], 0 ≤ w ∧ w < 1000 := fun h1 h2 w hw => by
    rcases List.mem_append.mp hw with h | h
    · exact h1 w h
    · rw [List.mem_singleton.mp h]; exact h2
  refine q_when (et_test (ev_ge (ev_var rfl) (ev_pow ev_c ev_c ⟨by decide, by decide, by decide⟩))) (fun _ H2 e2 => ?_) (fun _ H2 e2 => ?_)
  · refine q_asg (ev_var rfl) fun H3 e3 => ?_
    refine q_forR1 (ea_cons (ev_var rfl) ea_nil) ⟨by omega, by omega⟩ (fun i σ H' => ∃ (z5 : Option V) (m : Int) (ns : List Int), σ = [some (.int c), some (.int kk), some (.int (n : Int)), some (.ref l), none, z5, some (.int m), none] ∧ Ex H H' ∧ H' l = some (.lst (ns.map V.int)) ∧ ns.length = i ∧ ∀ v ∈ ns, 0 ≤ v ∧ v < 1000)
      (fun H4 e4 => ⟨none, c, [], rfl, ((e1.trans e2).trans e3).trans e4, (e2.trans (e3.trans e4)) l _ h1, rfl, fun v h => by cases h⟩) ?_ ?_
    · rintro i σ H' hi ⟨z5, m, ns, rfl, e4, h4, h5, h6⟩
      refine q_app h4 (ev_var rfl) (ev_mod (ev_int1 (ev_var rfl)) ev_c (by decide)) (by rw [List.length_map]; omega) fun H5 e5 => ?_
      refine s_asg (ev_fdiv (ev_var rfl) ev_c ⟨by decide, by decide⟩) fun H6 e6 => ⟨_, _, ns ++ [m % 1000], rfl, (Ex.mut (e4.trans e5) hl).trans e6, by rw [List.map_append]; exact e6 l _ upd_same, by rw [List.length_append, h5]; rfl, snoc h6 (by omega)⟩
    · rintro σ H' ⟨z5, m, ns, rfl, e4, h4, h5, h6⟩
      exact s_ret (ev_var rfl) fun H5 e5 => k _ _ (e4.trans e5) ⟨ns, by rw [h5]; omega, h6, l, rfl, e5 l _ h4⟩
  · refine q_asg (ev_mod (ev_int1 (ev_add (ev_add (ev_mul (ev_var rfl) ev_c (.inr (by decide))) (ev_mul (ev_var rfl) ev_c (.inr (by decide)))) ev_c)) ev_c (by decide)) fun H3 e3 => ?_
    refine q_forR1 (ea_cons (ev_var rfl) ea_nil) ⟨by omega, by omega⟩ (fun i σ H' => ∃ (z5 z7 : Option V) (m : Int) (ns : List Int), σ = [some (.int c), some (.int kk), some (.int (n : Int)), some (.ref l), some (.int m), z5, none, z7] ∧ (0 ≤ m ∧ m < 2147483647) ∧ Ex H H' ∧ H' l = some (.lst (ns.map V.int)) ∧ ns.length = i ∧ ∀ v ∈ ns, 0 ≤ v ∧ v < 1000)
      (fun H4 e4 => ⟨none, none, _, [], rfl, by omega, ((e1.trans e2).trans e3).trans e4, (e2.trans (e3.trans e4)) l _ h1, rfl, fun v h => by cases h⟩) ?_ ?_
    · rintro i σ H' hi ⟨z5, z7, m, ns, rfl, hm, e4, h4, h5, h6⟩
      refine q_asg (ev_mod (ev_int1 (ev_add (ev_add (ev_mul (ev_var rfl) ev_c (.inr (by decide))) (ev_mul (ev_var rfl) ev_c (.inr (by decide)))) ev_c)) ev_c (by decide)) fun H5 e5 => ?_
      refine q_asg (ev_mod (ev_int1 (ev_add (ev_add (ev_mul (ev_var rfl) (ev_var rfl) (.inl (by constructor <;> omega))) (ev_mul (ev_var rfl) ev_c (.inr (by decide)))) (ev_var rfl))) ev_c (by decide)) fun H6 e6 => ?_
      refine s_app ((e5.trans e6) l _ h4) (ev_var rfl) (ev_mod (ev_int1 (ev_fdiv (ev_var rfl) ev_c ⟨by decide, by decide⟩)) ev_c (by decide)) (by rw [List.length_map]; omega) fun H7 e7 => ⟨_, _, _, ns ++ [_], rfl, by omega, Ex.mut (((e4.trans e5).trans e6).trans e7) hl, by rw [List.map_append]; exact upd_same, by rw [List.length_append, h5]; rfl, snoc h6 (by omega)⟩
    · rintro σ H' ⟨z5, z7, m, ns, rfl, hm, e4, h4, h5, h6⟩
      exact s_ret (ev_var rfl) fun H5 e5 => k _ _ (e4.trans e5) ⟨ns, by rw [h5]; omega, h6, l, rfl, e5 l _ h4⟩
end Sk

set_option Elab.async false
set_option linter.all false
set_option maxRecDepth 100000
set_option maxHeartbeats 2000000
namespace Sk
open PySem L2 Evl
section
variable {K : PySem.W.Frag} {CN CL : Addr}
theorem small_ok {n : Int} (h : n.natAbs ≤ 2 ^ 12) : (toT n).ok ∧ (toT n).height ≤ 5 := by
  have h5 : n.natAbs < Cb 6 := Nat.lt_of_lt_of_le (Nat.lt_of_le_of_lt h (by decide)) Cb_ge5
  exact ⟨toT_ok (E := 12) (by decide) h, height_toT 5 n h5⟩
/-- of_int of a small one does not raise -/
theorem pOfInt_ok {n : Int} {H : Hp} (hn : n.natAbs < 2 ^ 2900) (hs : (toT n).fits) : pOfInt K CN CL (.int n) H (fun v H' => NumV K H' v (toT n)) fun _ => False :=
  ⟨n, rfl, fun _ => ⟨Nat.lt_of_le_of_lt hs.1 (by decide), fun _ v H' h => h, fun h => absurd hs h⟩, fun h => absurd hn h⟩
theorem fits_small {n : Nat} (h : n < 7000) : (toT (n : Int)).fits := by
  refine ⟨?_, ?_⟩
  · rw [size_toT]
    have hb : ((n : Int)).natAbs ≤ 2 ^ 13 := by simp; omega
    have := sum_all ((naf (n : Int) 0).map (·.2)) (fun p => (toT ((p : Nat) : Int)).size) 9 fun p hp => by
      obtain ⟨x, hx, rfl⟩ := List.mem_map.mp hp
      exact sz14 _ (Nat.lt_succ_of_le (naf_le hb hx))
    rw [List.length_map] at this
    have h2 := naf_len 13 (n : Int) 0 hb
    omega
  · exact Nat.le_trans (height_toT 5 _ (Nat.lt_of_lt_of_le (by simp; omega : ((n : Int)).natAbs < 16385) Cb_ge5)) (by decide)
theorem fits_m1 : (toT (-1)).fits := by
  have h : (toT (-1)) = .cons (-1) .nil .nil := by
    rw [toT_eq, naf_odd (by decide), show ((-1 : Int) - (2 - -1 % 4)) / 2 = 0 by decide, naf_zero]
    show T.cons _ (toT ((0 : Nat) : Int)) .nil = _
    rw [show ((0 : Nat) : Int) = 0 from rfl, toT_eq, naf_zero] <;> rfl
  rw [h]
  exact ⟨by decide, by decide⟩
/-- the suite's answer, at a caught error of the class -/
theorem suite_true {D : Ends} {σ : L2.St} {H : Hp} {si : Nat} {a d a_Missing a_ReckonError a_TooLarge : Addr} (hR : PySem.W.kitOne K (.ref CN) (.ref a_ReckonError) = some true) (hA : PySem.W.kitAny K (.ref CN) [.ref a_Missing, .ref a_TooLarge] = some false) (hd : ErrAt K CN d H) (hv : σ[si]? = some (some (.ref a)))
    (k : ∀ H', Ex H H' → D.rt (.bl true) H') : tRet (tAndV (tCB (rIsEc K CN a (.ref CN) (some d)) (tCons (tVar si) (tCons (tC (.ref a_ReckonError)) tNil))) (tNotV (tCB (rIsETc K CN a (.ref CN) (some d)) (tCons (tVar si) (tCons (tTup (tCons (tC (.ref a_Missing)) (tCons (tC (.ref a_TooLarge)) tNil))) tNil))))) D σ H := by
  refine s_ret (v := .bl (true && !false)) (ev_andV (a := true) ?_ fun _ => ev_notV ?_) fun H1 e1 => k H1 e1
  · exact ev_cb (ea_cons (ev_var hv) (ea_cons ev_c ea_nil)) fun H1 e1 Q q => ⟨(hd.ex e1).cau, .ref a_ReckonError, .ref a_ReckonError, true, rfl, fun u r => r, hR, q H1 (Ex.refl _)⟩
  · have hea : EA (tCons (tVar si) (tCons (tTup (tCons (tC (.ref a_Missing)) (tCons (tC (.ref a_TooLarge)) tNil))) tNil)) σ H (fun vs H2 => ∃ v w, vs = [v, w] ∧ v = .ref a ∧ ∃ p vs', w = .ref p ∧ H2 p = some (.tup vs') ∧ vs' = [.ref a_Missing, .ref a_TooLarge]) :=
      ea_two (R := fun v _ => v = .ref a) (R' := fun w H2 => ∃ p vs', w = .ref p ∧ H2 p = some (.tup vs') ∧ vs' = [.ref a_Missing, .ref a_TooLarge]) (er_is (ev_var hv)) monoC
        (er_tup (RA := fun vs' _ => vs' = [.ref a_Missing, .ref a_TooLarge]) (ea_ev (ea_cons ev_c (ea_cons ev_c ea_nil))) (fun _ _ _ _ h => h) fun vs H2 h => by rw [h]; show 2 ≤ 100000; omega) fun v Ha Hb e ⟨p, vs', g1, g2, g3⟩ => ⟨p, vs', g1, e p _ g2, g3⟩
    exact fun H1 e1 Q q => hea H1 e1 _ fun vs H2 e2 ⟨v, w, h1, h2, p, vs', h3, h4, h5⟩ => by
      subst h1 h2 h3 h5
      exact ⟨(hd.ex (e1.trans e2)).cau, p, _, [.ref a_Missing, .ref a_TooLarge], false, rfl, h4, .cons (.own _) (.cons (.own _) .nil), hA, q H2 e2⟩
end
end Sk

set_option Elab.async false
set_option linter.all false
set_option maxRecDepth 100000
set_option maxHeartbeats 2000000
namespace Sk
open PySem L2 Evl
/-- a sum of at most five signed powers of two below 2 ** 2800, and a small rest -/
def PlainN (n : Int) : Prop := ∃ m c : Int, n = m + c ∧ PlW 5 m ∧ c.natAbs ≤ 20
def pPlain : V → V → V → Hp → VP → Prop := fun x y z H R => Drawn 14 x H ∧ y = .int 0 ∧ z = .int 2800 ∧ R = fun v _ => ∃ n, v = .int n ∧ PlainN n
def sp_law_plain (K : PySem.W.Frag) : Sp := spF3 pPlain
def t_law_plain (K : PySem.W.Frag) : TS := (tSeq (tAsg (tC (.int 0)) (gName 3))
    (tSeq (tFor (iRng1 (tCons (tOp xMod (tCB xInt1 (tCons (tOp (rIxL K) (tVar 0) (tVar 1)) tNil)) (tC (.int 6))) tNil)) (gName 4) (tSeq (tAsg (tOp (rIxL K) (tLst (tCons (tOp xMod (tCB xInt1 (tCons (tOp (rIxL K) (tVar 0) (tOp xAdd (tOp xAdd (tVar 1) (tC (.int 1))) (tVar 4))) tNil)) (tC (.int 70))) (tCons (tOp xMod (tOp xMul (tCB xInt1 (tCons (tOp (rIxL K) (tVar 0) (tOp xAdd (tOp xAdd (tVar 1) (tC (.int 1))) (tVar 4))) tNil)) (tC (.int 7))) (tVar 2)) tNil))) (tOp xMod (tOp xFdiv (tCB xInt1 (tCons (tOp (rIxL K) (tVar 0) (tOp xAdd (tVar 1) (tC (.int 7)))) tNil)) (tOp xAdd (tC (.int 1)) (tVar 4))) (tC (.int 2)))) (gName 5))
    (tAsg (tOp xAdd (tVar 3) (tOp xMul (tOp xSub (tC (.int 1)) (tOp xMul (tC (.int 2)) (tOp xMod (tOp xFdiv (tCB xInt1 (tCons (tOp (rIxL K) (tVar 0) (tOp xAdd (tVar 1) (tC (.int 8)))) tNil)) (tOp xAdd (tC (.int 3)) (tVar 4))) (tC (.int 2))))) (tOp xShl (tC (.int 1)) (tVar 5)))) (gName 3))))
    (tRet (tOp xSub (tOp xAdd (tVar 3) (tOp xMod (tCB xInt1 (tCons (tOp (rIxL K) (tVar 0) (tOp xAdd (tVar 1) (tC (.int 9)))) tNil)) (tC (.int 41)))) (tC (.int 20))))))
theorem mod2 (z : Int) : z % 2 = ((0 : Nat) : Int) ∨ z % 2 = ((1 : Nat) : Int) := by omega
theorem pure_law_plain {K : PySem.W.Frag} {vs : List V} {H : Hp} {Q : VK} {E : XK} (h : sp_law_plain K vs H Q E) : t_law_plain K { nx := fun _ H' => Q .non H', rt := Q } (start ["numbers", "at", "most", "value", "k", "place"] vs) H := by
  obtain ⟨x, y, z, R, rfl, ⟨⟨l, hl, hb, p, rfl, hp⟩, rfl, rfl, rfl⟩, k⟩ := h
  have hat : ∀ i, i < 14 → 0 ≤ l.getD i 0 ∧ l.getD i 0 < 1000 := fun i hi => hb _ (getD_mem (by omega))
  have num : ∀ {σ : L2.St} {H1 : Hp} {te : TE} {kk : Int} (i : Nat), σ[0]? = some (some (.ref p)) → Ex H H1 → Ev te σ H1 (.int kk) → kk = (i : Int) → i < 14 → Ev (tCB xInt1 (tCons (tOp (rIxL K) (tVar 0) te) tNil)) σ H1 (.int (l.getD i 0)) :=
    fun i h0 e1 h1 h2 h3 => ev_int1 (ev_ints (ev_var h0) h1 h2 (sq_of (e1 p _ hp)) (by omega))
  refine q_asg ev_c fun H1 e1 => ?_
  have h0 := hat 0 (by omega)
  refine q_forR1 (n := l.getD 0 0 % 6) (ea_cons (ev_mod (num 0 rfl e1 (ev_var rfl) rfl (by omega)) ev_c (by decide)) ea_nil) ⟨by omega, by omega⟩
    (fun i σ H' => ∃ (m : Int) (z4 z5 : Option V), σ = [some (.ref p), some (.int 0), some (.int 2800), some (.int m), z4, z5] ∧ Ex H H' ∧ PlW i m) (fun H2 e2 => ⟨0, none, none, rfl, e1.trans e2, PlW.zero⟩) ?_ ?_
  · rintro i σ H' hi ⟨m, z4, z5, rfl, e2, hw⟩
    have hi5 : i < 5 := by omega
    have h7 := hat 7 (by omega)
    have h8 := hat 8 (by omega)
    have hk := hat (1 + i) (by omega)
    have hpl : ∃ pl : Nat, pl < 2800 ∧ Ev (tOp (rIxL K) (tLst (tCons (tOp xMod (tCB xInt1 (tCons (tOp (rIxL K) (tVar 0) (tOp xAdd (tOp xAdd (tVar 1) (tC (.int 1))) (tVar 4))) tNil)) (tC (.int 70))) (tCons (tOp xMod (tOp xMul (tCB xInt1 (tCons (tOp (rIxL K) (tVar 0) (tOp xAdd (tOp xAdd (tVar 1) (tC (.int 1))) (tVar 4))) tNil)) (tC (.int 7))) (tVar 2)) tNil))) (tOp xMod (tOp xFdiv (tCB xInt1 (tCons (tOp (rIxL K) (tVar 0) (tOp xAdd (tVar 1) (tC (.int 7)))) tNil)) (tOp xAdd (tC (.int 1)) (tVar 4))) (tC (.int 2))))
        [some (.ref p), some (.int 0), some (.int 2800), some (.int m), some (.int (i : Int)), z5] H' (.int (pl : Int)) := by
      have ea : EvA (tCons (tOp xMod (tCB xInt1 (tCons (tOp (rIxL K) (tVar 0) (tOp xAdd (tOp xAdd (tVar 1) (tC (.int 1))) (tVar 4))) tNil)) (tC (.int 70))) (tCons (tOp xMod (tOp xMul (tCB xInt1 (tCons (tOp (rIxL K) (tVar 0) (tOp xAdd (tOp xAdd (tVar 1) (tC (.int 1))) (tVar 4))) tNil)) (tC (.int 7))) (tVar 2)) tNil))
          [some (.ref p), some (.int 0), some (.int 2800), some (.int m), some (.int (i : Int)), z5] H' [.int (l.getD (1 + i) 0 % 70), .int (l.getD (1 + i) 0 * 7 % 2800)] :=
        ea_cons (ev_mod (num (1 + i) rfl e2 (ev_add (ev_add (ev_var rfl) ev_c) (ev_var rfl)) (by omega) (by omega)) ev_c (by decide)) (ea_cons (ev_mod (ev_mul (num (1 + i) rfl e2 (ev_add (ev_add (ev_var rfl) ev_c) (ev_var rfl)) (by omega) (by omega)) ev_c (.inr (by decide))) (ev_var rfl) (by decide)) ea_nil)
      have eb : Ev (tOp xMod (tOp xFdiv (tCB xInt1 (tCons (tOp (rIxL K) (tVar 0) (tOp xAdd (tVar 1) (tC (.int 7)))) tNil)) (tOp xAdd (tC (.int 1)) (tVar 4))) (tC (.int 2))) [some (.ref p), some (.int 0), some (.int 2800), some (.int m), some (.int (i : Int)), z5] H' (.int (l.getD 7 0 / (1 + (i : Int)) % 2)) :=
        ev_mod (ev_fdiv (num 7 rfl e2 (ev_add (ev_var rfl) ev_c) rfl (by omega)) (ev_add ev_c (ev_var rfl)) ⟨by omega, by omega⟩) ev_c (by decide)
      rcases mod2 (l.getD 7 0 / (1 + (i : Int))) with q | q
      · rw [q] at eb
        refine ⟨(l.getD (1 + i) 0 % 70).toNat, by omega, ev_is (ev_pickL ea (by show 2 ≤ 1000; omega) eb rfl) ?_⟩
        exact congrArg V.int (by omega)
      · rw [q] at eb
        refine ⟨(l.getD (1 + i) 0 * 7 % 2800).toNat, by omega, ev_is (ev_pickL ea (by show 2 ≤ 1000; omega) eb rfl) ?_⟩
        exact congrArg V.int (by omega)
    obtain ⟨pl, hpl1, hpl2⟩ := hpl
    refine q_asg hpl2 fun H3 e3 => ?_
    obtain ⟨s, hs, hsv⟩ : ∃ s : Int, (s = 1 ∨ s = -1) ∧ 1 - 2 * (l.getD 8 0 / (3 + (i : Int)) % 2) = s := ⟨_, by omega, rfl⟩
    refine s_asg (v := .int (m + s * 2 ^ pl)) (ev_is (ev_add (ev_var rfl) (ev_mul (i := s) (j := 1 * 2 ^ ((pl : Int)).toNat) (ev_is (ev_sub ev_c (ev_mul ev_c (ev_mod (ev_fdiv (num 8 rfl (e2.trans e3) (ev_add (ev_var rfl) ev_c) rfl (by omega)) (ev_add ev_c (ev_var rfl)) ⟨by omega, by omega⟩) ev_c (by decide)) (.inl (by decide)))) (congrArg V.int hsv)) (ev_shl ev_c (ev_var rfl) ⟨by omega, by omega, by decide⟩) (.inl (by rcases hs with rfl | rfl <;> decide)))) ?_) fun H4 e4 => ⟨_, _, _, rfl, (e2.trans e3).trans e4, hw.next hs hpl1⟩
    rw [Int.one_mul, Int.toNat_natCast]
  · rintro σ H' ⟨m, z4, z5, rfl, e2, hw⟩
    have h9 := hat 9 (by omega)
    refine s_ret (ev_sub (ev_add (ev_var rfl) (ev_mod (num 9 rfl e2 (ev_add (ev_var rfl) ev_c) rfl (by omega)) ev_c (by decide))) ev_c) fun H3 e3 => k _ _ (e2.trans e3) ⟨_, rfl, m, l.getD 9 0 % 41 - 20, by omega, hw.le (by omega), by omega⟩
/-! ### the law's own cycle -/
def pCycle : V → Hp → VP → Prop := fun x H R => ∃ m : Nat, x = .int (m : Int) ∧ 1 ≤ m ∧ m ≤ 10000 ∧ R = fun v H' => ∃ q n l, v = .ref q ∧ IsRow m n l ∧ H' q = some (.tup [.int (l : Int), .int ((n - l : Nat) : Int)])
def sp_law_cycle (K : PySem.W.Frag) : Sp := spF1 pCycle
def t_law_cycle (K : PySem.W.Frag) : TS := (tSeq (tAsg tDNewK (gName 1))
    (tSeq (tAsg (tOp xMod (tC (.int 1)) (tVar 0)) (gName 2))
    (tSeq (tFor (iRng1 (tCons (tC (.int 20001)) tNil)) (gName 3) (tSeq (tIfS (tB (tDIn (tVar 2) (tVar 1))) (tRet (tTup (tCons (tDGet (tVar 1) (tVar 2)) (tCons (tOp xSub (tVar 3) (tDGet (tVar 1) (tVar 2))) tNil)))) tNext)
    (tSeq (sDPut (tVar 1) (tVar 2) (tVar 3))
    (tAsg (tOp xMod (tOp xMul (tVar 2) (tC (.int 2))) (tVar 0)) (gName 2)))))
    (tRet (tC .non)))))
theorem pure_law_cycle {K : PySem.W.Frag} {vs : List V} {H : Hp} {Q : VK} {E : XK} (h : sp_law_cycle K vs H Q E) : t_law_cycle K { nx := fun _ H' => Q .non H', rt := Q } (start ["m", "seen", "power", "k"] vs) H := by
  obtain ⟨x, R, rfl, ⟨m, rfl, hm1, hm2, rfl⟩, k⟩ := h
  refine q_asgD fun d H2 hd e2 h2 => ?_
  refine q_asg (ev_mod ev_c (ev_var rfl) (by omega)) fun H3 e3 => ?_
  have hp1 : (1 : Int) % (m : Int) = ((2 ^ 0 % m : Nat) : Int) := by rw [Nat.pow_zero]; norm_cast
  rw [hp1]
  refine q_forR1 (ea_cons ev_c ea_nil) ⟨by decide, by decide⟩ (fun i σ H' => ∃ (z3 : Option V) (kvs : List (Key × V)), σ = [some (.int (m : Int)), some (.ref d), some (.int ((2 ^ i % m : Nat) : Int)), z3] ∧ Ex H H' ∧ H' d = some (.dK kvs) ∧ Plc m i kvs)
    (fun H4 e4 => ⟨none, [], rfl, (e2.trans e3).trans e4, (e3.trans e4) d _ h2, Plc.zero m⟩) ?_ ?_
  · rintro i σ H' hi ⟨z3, kvs, rfl, e4, h4, hP⟩
    have hi2 := hP.le (by omega)
    refine q_when (et_B (ev_din (ev_var rfl) (ev_var rfl) h4)) (fun hb H5 e5 => ?_) (fun hb H5 e5 => ?_)
    · obtain ⟨l', hr, hv⟩ := hP.done hb
      have hln := hr.1
      refine s_retU (eu_tup (vs := [.int (l' : Int), .int ((i - l' : Nat) : Int)]) (ea_cons (ev_dget (ev_var rfl) (ev_var rfl) (e5 d _ h4) hv) (ea_cons (ev_is (ev_sub (ev_var rfl) (ev_dget (ev_var rfl) (ev_var rfl) (e5 d _ h4) hv)) (congrArg V.int (by omega))) ea_nil)) (by show 2 ≤ 100000; omega)) fun q H6 _ e6 h6 => k _ _ (e4.trans (e5.trans e6)) ⟨q, i, l', rfl, hr, h6⟩
    · have hn : valV kvs (Sum.inl (((2 ^ i % m : Nat) : Int))) = none := by
        cases hq : valV kvs (Sum.inl (((2 ^ i % m : Nat) : Int))) with
        | none => rfl
        | some v => rw [hq] at hb; cases hb
      refine q_dput (e5 d _ h4) (v := .int (i : Int)) (ev_var rfl) (ev_var rfl) (ev_var rfl) (by rw [hP.len]; omega) fun H6 e6 => ?_
      refine s_asg (ev_mod (ev_mul (ev_var rfl) ev_c (.inr (by decide))) (ev_var rfl) (by omega)) fun H7 e7 => ⟨some (.int (i : Int)), _, ?_, (Ex.mut (e4.trans (e5.trans e6)) hd).trans e7, e7 d _ upd_same, hP.next hn⟩
      have : ((2 ^ i % m : Nat) : Int) * 2 % (m : Int) = ((2 ^ (i + 1) % m : Nat) : Int) := by rw [← pow_mod_succ, Nat.mul_comm]; norm_cast
      rw [this] <;> rfl
  · rintro σ H' ⟨z3, kvs, rfl, e4, h4, hP⟩
    have := hP.le (by omega)
    have h5 : (20001 : Int).toNat ≤ m := this
    omega
end Sk

set_option Elab.async false
set_option linter.all false
set_option maxRecDepth 100000
set_option maxHeartbeats 2000000
namespace Sk
open PySem L2 Evl
/-! ### law_refused -/
def pRefused : V → V → Hp → VP → Prop := fun x y H R => ∃ (door m : Int), x = .int door ∧ y = .int m ∧ ((0 ≤ door ∧ door ≤ 2 ∧ ¬ (1 ≤ m ∧ m ≤ 10000)) ∨ (door = 3 ∧ m = 0)) ∧ R = fun v _ => v = .bl true
def sp_law_refused (K : PySem.W.Frag) : Sp := spF2 pRefused
def t_law_refused (K : PySem.W.Frag) (a_Missing : Addr) (a_NotAllowed : Addr) (a_ReckonError : Addr) (a_TooLarge : Addr) : TS := (tSeq (fun D σ H => (fun W => (tIfS (tTest (tOp rEq (tVar 0) (tC (.int 0)))) (tDrop (tCallS (sp_remainder K a_NotAllowed) (WE W) (tCons (tCallS (sp_of_int K a_NotAllowed a_TooLarge) (WE W) (tCons (tC (.int 5)) tNil)) (tCons (tVar 1) tNil)))) (tIfS (tTest (tOp rEq (tVar 0) (tC (.int 1)))) (tDrop (tCallS (sp_power_remainder K a_NotAllowed) (WE W) (tCons (tCallS (sp_of_int K a_NotAllowed a_TooLarge) (WE W) (tCons (tC (.int 5)) tNil)) (tCons (tVar 1) tNil)))) (tIfS (tTest (tOp rEq (tVar 0) (tC (.int 2)))) (tDrop (tCallS (sp_powers_of_two K a_NotAllowed) (WE W) (tCons (tVar 1) tNil))) (tDrop (tCallS (sp_power_remainder K a_NotAllowed) (WE W) (tCons (tCallS (sp_of_int K a_NotAllowed a_TooLarge) (WE W) (tCons (tOp xSub (tUn xNeg (tC (.int 1))) (tVar 1)) tNil)) (tCons (tC (.int 7)) tNil)))))))) (wAs K (.ref a_NotAllowed) 2 (fun a cls d => (tRet (tAndV (tCB (rIsEc K a_NotAllowed a cls d) (tCons (tVar 2) (tCons (tC (.ref a_ReckonError)) tNil))) (tNotV (tCB (rIsETc K a_NotAllowed a cls d) (tCons (tVar 2) (tCons (tTup (tCons (tC (.ref a_Missing)) (tCons (tC (.ref a_TooLarge)) tNil))) tNil))))))) (fun _ _ _ _ => False) D) D σ H)
    (tRet (tC (.bl false))))
section
variable {K : PySem.W.Frag} {CN CL : Addr}
theorem pure_law_refused {a_Missing a_NotAllowed a_ReckonError a_TooLarge : Addr} (hex : PySem.W.exmOne K (.ref a_NotAllowed) (.ref a_NotAllowed) = some true) (hR : PySem.W.kitOne K (.ref a_NotAllowed) (.ref a_ReckonError) = some true) (hA : PySem.W.kitAny K (.ref a_NotAllowed) [.ref a_Missing, .ref a_TooLarge] = some false)
    {vs : List V} {H : Hp} {Q : VK} {E : XK} (h : sp_law_refused K vs H Q E) : t_law_refused K a_Missing a_NotAllowed a_ReckonError a_TooLarge { nx := fun _ H' => Q .non H', rt := Q } (start ["door", "m", "e"] vs) H := by
  obtain ⟨x, y, R, rfl, ⟨door, m, rfl, rfl, hdm, rfl⟩, k⟩ := h
  -- what the except wishes: the answer True
  have wish : ∀ (D : Ends) (H1 : Hp), Ex H H1 → D.rt = Q → ∀ d, ErrAt K a_NotAllowed d H1 → wAs K (.ref a_NotAllowed) 2 (fun a cls d => (tRet (tAndV (tCB (rIsEc K a_NotAllowed a cls d) (tCons (tVar 2) (tCons (tC (.ref a_ReckonError)) tNil))) (tNotV (tCB (rIsETc K a_NotAllowed a cls d) (tCons (tVar 2) (tCons (tTup (tCons (tC (.ref a_Missing)) (tCons (tC (.ref a_TooLarge)) tNil))) tNil)))))))
      (fun _ _ _ _ => False) D (.ref a_NotAllowed) (some d) [some (.int door), some (.int m), none] H1 := fun D H1 e1 hD d hd =>
    ⟨true, hex, fun _ a ha => suite_true (a := a) hR hA hd rfl fun H2 e2 => by
      show D.rt (.bl true) H2
      rw [hD]
      exact k _ _ (e1.trans e2) rfl, fun h => by cases h⟩
  have ofi : ∀ (W : WX) (σ : L2.St) (te : TE) (n : Int) (H1 : Hp), Ev te σ H1 (.int n) → n.natAbs ≤ 5 → (toT n).fits → ER (tCallS (sp_of_int K a_NotAllowed a_TooLarge) (WE W) (tCons te tNil)) σ H1 (fun v H' => NumV K H' v (toT n)) := fun W σ te n H1 he hn hf =>
    er_callS (ea_one (R := fun v _ => v = .int n) (er_is he) monoC) fun vs H2 e2 ⟨v, hv, hv2⟩ => by
      subst hv hv2
      exact srx1 (pOfInt_ok (Nat.lt_of_le_of_lt hn (Nat.lt_of_lt_of_le (by decide : 5 < 2 ^ 3) (Nat.pow_le_pow_right (by decide) (by decide)))) hf)
  have t5 := small_ok (n := 5) (by decide)
  have tm := small_ok (n := -1) (by decide)
  refine s_if (b := decide (V.int door = V.int 0)) (et_test (ev_eq (ev_var rfl) ev_c rfl)) (fun hc H1 e1 => ?_) (fun hc H1 e1 => ?_)
  · have hd : door = 0 := V.int.inj (of_decide_eq_true hc)
    have hm : ¬ (1 ≤ m ∧ m ≤ 10000) := by omega
    exact xs_call2 (R1 := fun v H => NumV K H v (toT 5)) (R2 := fun v _ => v = .int m) (ofi _ _ _ 5 H1 ev_c (by decide) (fits_small (n := 5) (by decide))) numT.mono (er_is (ev_var rfl)) monoC _ fun v v' H2 e2 g1 g2 =>
      ⟨fun _ _ => False, fun C => C = a_NotAllowed, ⟨toT 5, m, g1, g2, t5.1, by have := t5.2; omega, fun h => absurd h hm, fun _ => rfl⟩, fun _ _ _ h => h.elim, fun C H3 e3 hC => by subst hC; exact wish _ H3 ((e1.trans e2).trans e3) rfl⟩
  refine s_if (b := decide (V.int door = V.int 1)) (et_test (ev_eq (ev_var rfl) ev_c rfl)) (fun hc1 H2 e2 => ?_) (fun hc1 H2 e2 => ?_)
  · have hd : door = 1 := V.int.inj (of_decide_eq_true hc1)
    have hm : ¬ (1 ≤ m ∧ m ≤ 10000) := by omega
    exact xs_call2 (R1 := fun v H => NumV K H v (toT 5)) (R2 := fun v _ => v = .int m) (ofi _ _ _ 5 H2 ev_c (by decide) (fits_small (n := 5) (by decide))) numT.mono (er_is (ev_var rfl)) monoC _ fun v v' H3 e3 g1 g2 =>
      ⟨fun _ _ => False, fun C => C = a_NotAllowed, ⟨toT 5, m, g1, g2, t5.1, by have := t5.2; omega, fun h => absurd h.1 hm, fun _ => rfl⟩, fun _ _ _ h => h.elim, fun C H4 e4 hC => by subst hC; exact wish _ H4 ((e1.trans e2).trans (e3.trans e4)) rfl⟩
  refine s_if (b := decide (V.int door = V.int 2)) (et_test (ev_eq (ev_var rfl) ev_c rfl)) (fun hc2 H3 e3 => ?_) (fun hc2 H3 e3 => ?_)
  · have hd : door = 2 := V.int.inj (of_decide_eq_true hc2)
    have hm : ¬ (1 ≤ m ∧ m ≤ 10000) := by omega
    exact xs_call1 (R1 := fun v _ => v = .int m) (er_is (ev_var rfl)) monoC _ fun v H4 e4 g1 =>
      ⟨fun _ _ => False, fun C => C = a_NotAllowed, ⟨m, g1, fun h => absurd h hm, fun _ => rfl⟩, fun _ _ _ h => h.elim, fun C H5 e5 hC => by subst hC; exact wish _ H5 ((e1.trans e2).trans (e3.trans (e4.trans e5))) rfl⟩
  · have n0 : door ≠ 0 := fun e => of_decide_eq_false hc (by rw [e])
    have n1 : door ≠ 1 := fun e => of_decide_eq_false hc1 (by rw [e])
    have n2 : door ≠ 2 := fun e => of_decide_eq_false hc2 (by rw [e])
    have hm : m = 0 := by omega
    subst hm
    exact xs_call2 (R1 := fun v H => NumV K H v (toT (-1))) (R2 := fun v _ => v = .int 7) (ofi _ _ _ (-1) H3 (ev_is (ev_sub (ev_neg ev_c) (ev_var rfl)) (congrArg V.int (by decide))) (by decide) fits_m1) numT.mono (er_is ev_c) monoC _ fun v v' H4 e4 g1 g2 =>
      ⟨fun _ _ => False, fun C => C = a_NotAllowed, ⟨toT (-1), 7, g1, g2, tm.1, by have := tm.2; omega, fun h => absurd h.2 (by rw [toT_val]; decide), fun _ => rfl⟩, fun _ _ _ h => h.elim, fun C H5 e5 hC => by subst hC; exact wish _ H5 ((e1.trans e2).trans (e3.trans (e4.trans e5))) rfl⟩
end
end Sk

set_option Elab.async false
set_option linter.all false
set_option maxRecDepth 100000
set_option maxHeartbeats 2000000
namespace Sk
open PySem L2 Evl
/-! ### law_agrees -/
theorem plain_ok {n : Int} (h : PlainN n) : n.natAbs ≤ 2 ^ 2802 ∧ (toT n).fits := by
  obtain ⟨m, c, rfl, h1, h2⟩ := h
  exact ⟨plain_big h1 h2, plain_fits h1 h2⟩
def pAgrees : V → V → V → Hp → VP → Prop := fun x y z H R => ∃ (n m : Int) (e : Nat), x = .int n ∧ y = .int (e : Int) ∧ z = .int m ∧ PlainN n ∧ e < 7000 ∧ 1 ≤ m ∧ m ≤ 10000 ∧ R = fun v _ => v = .bl true
def sp_law_agrees (K : PySem.W.Frag) (CN CL : Addr) : Sp := spF3 pAgrees
def t_law_agrees (K : PySem.W.Frag) (a_NotAllowed : Addr) (a_TooLarge : Addr) : TS := (tSeq (tAsg (tCall (sp_of_int K a_NotAllowed a_TooLarge) [] E0 (tCons (tVar 0) tNil)) (gName 3))
    (tSeq (tIfS (tOr (tTest (tOp rNe (tCall (sp_remainder K a_NotAllowed) [] E0 (tCons (tVar 3) (tCons (tVar 2) tNil))) (tOp xMod (tCB xInt1 (tCons (tVar 0) tNil)) (tVar 2)))) (tB (tCB (rIsi K) (tCons (tCall (sp_remainder K a_NotAllowed) [] E0 (tCons (tVar 3) (tCons (tVar 2) tNil))) (tCons (tC (.ty "bool")) tNil))))) (tRet (tC (.bl false))) tNext)
    (tRet (tOp rEq (tCall (sp_power_remainder K a_NotAllowed) [] E0 (tCons (tCall (sp_of_int K a_NotAllowed a_TooLarge) [] E0 (tCons (tVar 1) tNil)) (tCons (tVar 2) tNil))) (tOp xMod (tCB xInt1 (tCons (tOp xShl (tC (.int 1)) (tVar 1)) tNil)) (tVar 2))))))
section
variable {K : PySem.W.Frag} {CN CL : Addr} {σ : L2.St} {H : Hp} {te tf : TE} {t : T} {n m : Int}
theorem er_of_int (h : Ev te σ H (.int n)) (hn : n.natAbs < 2 ^ 2900) (hs : (toT n).fits) : ER (tCall (sp_of_int K CN CL) [] E0 (tCons te tNil)) σ H (fun v H' => NumV K H' v (toT n)) :=
  er_call (ea_one (R := fun v _ => v = .int n) (er_is h) monoC) fun vs H1 e1 ⟨v, hv, hv2⟩ => by
    subst hv hv2
    exact srx1 (pOfInt_ok hn hs)
theorem ev_remainder (h : ER te σ H (fun v H' => NumV K H' v t)) (hm : Ev tf σ H (.int m)) (hok : t.ok) (hh : t.height < 44) (h1 : 1 ≤ m ∧ m ≤ 10000) : Ev (tCall (sp_remainder K CN) [] E0 (tCons te (tCons tf tNil))) σ H (.int (t.val % m)) :=
  ev_er (er_call (ea_two (R' := fun v _ => v = .int m) h numT.mono (er_is hm) monoC) fun vs H1 e1 ⟨v, w, hv, hv2, hw⟩ => by
    subst hv hw
    exact srx2 (P := pRem K CN) ⟨t, m, hv2, rfl, hok, hh, fun _ _ => rfl, fun h => absurd h1 h⟩)
theorem ev_pow_rem (h : ER te σ H (fun v H' => NumV K H' v t)) (hm : Ev tf σ H (.int m)) (hok : t.ok) (hh : t.height < 43) (h1 : 1 ≤ m ∧ m ≤ 10000) (h0 : 0 ≤ t.val) : Ev (tCall (sp_power_remainder K CN) [] E0 (tCons te (tCons tf tNil))) σ H (.int (2 ^ t.val.toNat % m)) :=
  ev_er (er_call (ea_two (R' := fun v _ => v = .int m) h numT.mono (er_is hm) monoC) fun vs H1 e1 ⟨v, w, hv, hv2, hw⟩ => by
    subst hv hw
    exact srx2 (P := pPowRem K CN) ⟨t, m, hv2, rfl, hok, hh, fun _ _ => rfl, fun h => absurd ⟨h1, h0⟩ h⟩)
theorem ev_notBool {i : Int} (h : Ev te σ H (.int i)) : Ev (tCB (rIsi K) (tCons te (tCons (tC (.ty "bool")) tNil))) σ H (.bl false) :=
  ev_cb (ea_cons h (ea_cons ev_c ea_nil)) fun H1 _ Q q => ⟨.int i, .ty "bool", .type "int", .type "bool", false, rfl, .ty _, .base (by constructor), kit_ty (by decide +kernel), q H1 (Ex.refl _)⟩
theorem pure_law_agrees {vs : List V} {Q : VK} {E : XK} (h : sp_law_agrees K CN CL vs H Q E) : t_law_agrees K CN CL { nx := fun _ H' => Q .non H', rt := Q } (start ["value", "exponent", "m", "number"] vs) H := by
  obtain ⟨x, y, z, R, rfl, ⟨n, m, e, rfl, rfl, rfl, hp, he, hm1, hm2, rfl⟩, k⟩ := h
  obtain ⟨hb, hf⟩ := plain_ok hp
  have hb2 : n.natAbs < 2 ^ 2900 := Nat.lt_of_le_of_lt hb (Nat.pow_lt_pow_right (by decide) (by decide))
  have hok : (toT n).ok := toT_ok (E := 2802) (by decide) hb
  have hh : (toT n).height < 43 := Nat.lt_of_le_of_lt (height_toT 6 _ (lt_Cb7 hb2 (by decide))) (by decide)
  refine q_asgR (er_of_int (ev_var rfl) hb2 hf) fun v H1 e1 hv => ?_
  have hr : ∀ {H2 : Hp}, Ex H1 H2 → Ev (tCall (sp_remainder K CN) [] E0 (tCons (tVar 3) (tCons (tVar 2) tNil))) [some (.int n), some (.int (e : Int)), some (.int m), some v] H2 (.int (n % m)) := fun {H2} e2 => by
    have := ev_remainder (K := K) (CN := CN) (t := toT n) (te := tVar 3) (tf := tVar 2) (σ := [some (.int n), some (.int (e : Int)), some (.int m), some v]) (H := H2) (er_var rfl fun H3 e3 => hv.ex (e2.trans e3)) (ev_var rfl) hok (by omega) ⟨hm1, hm2⟩
    rw [toT_val] at this
    exact this
  refine q_when (b := false || false) (et_or (et_test (ev_is (ev_ne (hr (Ex.refl _)) (ev_mod (ev_int1 (ev_var rfl)) (ev_var rfl) (by omega)) rfl) ?_)) fun _ => et_B (ev_notBool (hr (Ex.refl _)))) (fun h => by cases h) fun _ H2 e2 => ?_
  · rw [decide_eq_true rfl] <;> rfl
  · have he13 : ((e : Int)).natAbs < 2 ^ 13 := by simp; omega
    have hepow := ev_pow_rem (K := K) (CN := CN) (t := toT (e : Int)) (te := tCall (sp_of_int K CN CL) [] E0 (tCons (tVar 1) tNil)) (tf := tVar 2) (σ := [some (.int n), some (.int (e : Int)), some (.int m), some v]) (H := H2)
      (er_of_int (ev_var rfl) (Nat.lt_of_lt_of_le he13 (Nat.pow_le_pow_right (by decide) (by decide))) (fits_small he)) (ev_var rfl) (toT_ok (E := 13) (by decide) (Nat.le_of_lt he13)) (Nat.lt_of_le_of_lt (height_toT 6 _ (lt_Cb7 he13 (by decide))) (by decide)) ⟨hm1, hm2⟩ (by rw [toT_val]; omega)
    rw [toT_val, Int.toNat_natCast] at hepow
    refine s_ret (v := .bl true) (ev_is (ev_eq hepow (ev_mod (ev_int1 (ev_shl ev_c (ev_var rfl) ⟨by omega, by omega, by decide⟩)) (ev_var rfl) (by omega)) rfl) ?_) fun H3 e3 => k _ _ ((e1.trans e2).trans e3) rfl
    refine congrArg V.bl (decide_eq_true ?_)
    rw [Int.one_mul, Int.toNat_natCast]
end
end Sk

set_option Elab.async false
set_option linter.all false
set_option maxRecDepth 100000
set_option maxHeartbeats 2000000
namespace Sk
open PySem L2 Evl
/-! ### the law -/
def pLaw (K : PySem.W.Frag) : V → Hp → VP → Prop := fun x H R => ∃ (a : Addr) (ns : List Int), x = .ref a ∧ SqL K H a (ns.map V.int) ∧ ns.length ≤ 63 ∧ R = fun v _ => v = .bl true
def sp_law (K : PySem.W.Frag) : Sp := spF1 (pLaw K)
def t_law (K : PySem.W.Frag) (a_NotAllowed : Addr) (a_TooLarge : Addr) : TS := (tSeq (tFor (iRng1 (tCons (tCB xMax2 (tCons (tC (.int 1)) (tCons (tCB xMin2 (tCons (tCB (rLenS K) (tCons (tVar 0) tNil)) (tCons (tC (.int 7)) tNil))) tNil))) tNil)) (gName 1) (tSeq (tAsg (tCall (sp_law_numbers K) [] E0 (tCons (tCall (sp_law_cell K) [] E0 (tCons (tVar 0) (tCons (tVar 1) tNil))) (tCons (tVar 1) (tCons (tC (.int 14)) tNil)))) (gName 3))
    (tSeq (tAsg (tCall (sp_law_plain K) [] E0 (tCons (tVar 3) (tCons (tC (.int 0)) (tCons (tC (.int 2800)) tNil)))) (gName 4))
    (tSeq (tAsg (tCB xInt1 (tCons (tOp (rIxL K) (tVar 3) (tC (.int 10))) tNil)) (gName 5))
    (tSeq (tAsg (tOp (rIxL K) (tLst (tCons (tOp xAdd (tC (.int 1)) (tOp xMod (tCB xInt1 (tCons (tVar 5) tNil)) (tC (.int 40)))) (tCons (tOp xAdd (tC (.int 1)) (tOp xMod (tOp xMul (tVar 5) (tC (.int 10))) (tC (.int 10000)))) (tCons (tOp xShl (tC (.int 1)) (tOp xMod (tCB xInt1 (tCons (tVar 5) tNil)) (tC (.int 14)))) (tCons (tOp xAdd (tC (.int 1)) (tVar 5)) (tCons (tOp xSub (tC (.int 10000)) (tOp xMod (tCB xInt1 (tCons (tVar 5) tNil)) (tC (.int 3)))) tNil)))))) (tOp xMod (tCB xInt1 (tCons (tOp (rIxL K) (tVar 3) (tC (.int 11))) tNil)) (tC (.int 5)))) (gName 6))
    (tSeq (tAsg (tOp (rIxL K) (tLst (tCons (tOp xMod (tCB xInt1 (tCons (tOp (rIxL K) (tVar 3) (tC (.int 12))) tNil)) (tC (.int 30))) (tCons (tOp xMul (tCB xInt1 (tCons (tOp (rIxL K) (tVar 3) (tC (.int 12))) tNil)) (tC (.int 7))) tNil))) (tOp xMod (tCB xInt1 (tCons (tOp (rIxL K) (tVar 3) (tC (.int 13))) tNil)) (tC (.int 2)))) (gName 7))
    (tSeq (tIfS (tNot (tB (tCall (sp_law_agrees K a_NotAllowed a_TooLarge) [] E0 (tCons (tVar 4) (tCons (tVar 7) (tCons (tVar 6) tNil)))))) (tRet (tC (.bl false))) tNext)
    (tIfS (tTest (tOp (rNeD K) (tCall (sp_powers_of_two K a_NotAllowed) [] E0 (tCons (tVar 6) tNil)) (tCall (sp_law_cycle K) [] E0 (tCons (tVar 6) tNil)))) (tRet (tC (.bl false))) tNext))))))))
    (tSeq (tFor (iRng1 (tCons (tC (.int 3)) tNil)) (gName 2) (tIfS (tNot (tAnd (tB (tCall (sp_law_refused K) [] E0 (tCons (tVar 2) (tCons (tC (.int 0)) tNil)))) (tAnd (tB (tCall (sp_law_refused K) [] E0 (tCons (tVar 2) (tCons (tUn xNeg (tC (.int 3))) tNil)))) (tB (tCall (sp_law_refused K) [] E0 (tCons (tVar 2) (tCons (tC (.int 10001)) tNil))))))) (tRet (tC (.bl false))) tNext))
    (tRet (tAndV (tCall (sp_law_refused K) [] E0 (tCons (tC (.int 3)) (tCons (tC (.int 0)) tNil))) (tOp rEq (tC (.int 10000)) (tC (.int 10000)))))))
section
variable {K : PySem.W.Frag} {CN CL CM CR : Addr} {σ : L2.St} {H : Hp} {te tf : TE} {m : Nat}
def RowPair (m : Nat) : VP := fun v H' => ∃ q n l, v = .ref q ∧ IsRow m n l ∧ H' q = some (.tup [.int (l : Int), .int ((n - l : Nat) : Int)])
theorem rowPair (m : Nat) : Mono (RowPair m) := fun v H H' e ⟨q, n, l, h1, h2, h3⟩ => ⟨q, n, l, h1, h2, e q _ h3⟩
theorem ev_neRows (h1 : ER te σ H (RowPair m)) (h2 : ER tf σ H (RowPair m)) : Ev (tOp (rNeD K) te tf) σ H (.bl false) := fun H1 e Q q =>
  h1 H1 e _ fun v H2 e2 r1 => h2 H2 (e.trans e2) _ fun w H3 e3 ⟨q2, n2, l2, g1, g2, g3⟩ => by
    obtain ⟨q1, n1, l1, k1, k2, k3⟩ := rowPair m _ _ _ e3 r1
    obtain ⟨rfl, rfl⟩ := k2.uniq g2
    subst k1 g1
    refine ⟨.tuple [.int (l1 : Int), .int ((n1 - l1 : Nat) : Int)], .tuple [.int (l1 : Int), .int ((n1 - l1 : Nat) : Int)], .tup (st_of k3) (.cons (.int _) (.cons (.int _) .nil)), .tup (st_of g3) (.cons (.int _) (.cons (.int _) .nil)), by rfl, by rfl, ?_⟩
    rw [show PyData.eqv (.tuple [.int (l1 : Int), .int ((n1 - l1 : Nat) : Int)]) (.tuple [.int (l1 : Int), .int ((n1 - l1 : Nat) : Int)]) = true from SeqAt.eqv_refl _ (by rfl)]
    exact q H3 (e2.trans e3)
theorem ev_refused {door mm : Int} (h1 : Ev te σ H (.int door)) (h2 : Ev tf σ H (.int mm)) (hd : (0 ≤ door ∧ door ≤ 2 ∧ ¬ (1 ≤ mm ∧ mm ≤ 10000)) ∨ (door = 3 ∧ mm = 0)) : Ev (tCall (sp_law_refused K) [] E0 (tCons te (tCons tf tNil))) σ H (.bl true) :=
  ev_er (er_call2 (R1 := fun v _ => v = .int door) (R2 := fun v _ => v = .int mm) (er_is h1) monoC (er_is h2) monoC fun v w H1 e1 g1 g2 => ⟨door, mm, g1, g2, hd, rfl⟩)
theorem pure_law {vs : List V} {Q : VK} {E : XK} (h : sp_law K vs H Q E) : t_law K CN CL { nx := fun _ H' => Q .non H', rt := Q } (start ["script", "k", "door", "numbers", "value", "pick", "m", "exponent"] vs) H := by
  obtain ⟨x, R, rfl, ⟨a, ns, rfl, hs, hn, rfl⟩, k⟩ := h
  have hlen : (ns.map V.int).length = ns.length := List.length_map _
  refine q_forR1 (n := if (if (7 : Int) < (((ns.map V.int).length : Nat) : Int) then 7 else (((ns.map V.int).length : Nat) : Int)) > 1 then (if (7 : Int) < (((ns.map V.int).length : Nat) : Int) then 7 else (((ns.map V.int).length : Nat) : Int)) else 1)
    (ea_cons (ev_max ev_c (ev_min (ev_len (ev_var rfl) hs) ev_c)) ea_nil) ⟨by rw [hlen]; split <;> (split <;> omega), by rw [hlen]; split <;> (split <;> omega)⟩
    (fun i σ H' => ∃ z1 z2 z3 z4 z5 z6 z7 : Option V, σ = [some (.ref a), z1, z2, z3, z4, z5, z6, z7] ∧ Ex H H') (fun H1 e1 => ⟨none, none, none, none, none, none, none, rfl, e1⟩) ?_ ?_
  · rintro i σ H' _ ⟨z1, z2, z3, z4, z5, z6, z7, rfl, e1⟩
    refine q_asgR (R := Drawn 14) (er_call3 (R1 := fun v _ => ∃ c : Int, v = .int c) (R2 := fun v _ => v = .int (i : Int)) (R3 := fun v _ => v = .int ((14 : Nat) : Int)) (er_call2 (R1 := fun v _ => v = .ref a) (R2 := fun v _ => v = .int (i : Int)) (er_is (ev_var rfl)) monoC (er_is (ev_var rfl)) monoC fun v w H2 e2 g1 g2 => ⟨a, ns, i, g1, ex_l (e1.trans e2) hs, g2, rfl⟩) (fun _ _ _ _ h => h) (er_is (ev_var rfl)) monoC (er_is ev_c) monoC
      fun v w u H2 e2 ⟨c, g1⟩ g2 g3 => ⟨c, i, 14, g1, g2, g3, by decide, rfl⟩) fun v H2 e2 hv => ?_
    refine q_asgR (R := fun w _ => ∃ n, w = .int n ∧ PlainN n) (er_call3 (R1 := Drawn 14) (R2 := fun v _ => v = .int 0) (R3 := fun v _ => v = .int 2800) (er_var rfl fun H3 e3 => drawn 14 _ _ _ e3 hv) (drawn 14) (er_is ev_c) monoC (er_is ev_c) monoC fun v w u H3 e3 g1 g2 g3 => ⟨g1, g2, g3, rfl⟩) fun w H3 e3 ⟨n, hw, hp⟩ => ?_
    subst hw
    obtain ⟨l, hl, hb, p, rfl, hpl⟩ := drawn 14 _ _ _ e3 hv
    have hat : ∀ i, i < 14 → 0 ≤ l.getD i 0 ∧ l.getD i 0 < 1000 := fun i hi => hb _ (getD_mem (by omega))
    have num : ∀ {σ : L2.St} {H1 : Hp} {te : TE} {kk : Int} (i : Nat), σ[3]? = some (some (.ref p)) → Ex H3 H1 → Ev te σ H1 (.int kk) → kk = (i : Int) → i < 14 → Ev (tCB xInt1 (tCons (tOp (rIxL K) (tVar 3) te) tNil)) σ H1 (.int (l.getD i 0)) :=
      fun i h0 e1 h1 h2 h3 => ev_int1 (ev_ints (ev_var h0) h1 h2 (sq_of (e1 p _ hpl)) (by omega))
    have h10 := hat 10 (by omega)
    have h11 := hat 11 (by omega)
    have h12 := hat 12 (by omega)
    refine q_asg (num 10 rfl (Ex.refl _) ev_c rfl (by omega)) fun H4 e4 => ?_
    generalize hpk : l.getD 10 0 = pick at *
    -- the modulus
    have hmm : ∃ mm : Int, (1 ≤ mm ∧ mm ≤ 10000) ∧ Ev (tOp (rIxL K) (tLst (tCons (tOp xAdd (tC (.int 1)) (tOp xMod (tCB xInt1 (tCons (tVar 5) tNil)) (tC (.int 40)))) (tCons (tOp xAdd (tC (.int 1)) (tOp xMod (tOp xMul (tVar 5) (tC (.int 10))) (tC (.int 10000)))) (tCons (tOp xShl (tC (.int 1)) (tOp xMod (tCB xInt1 (tCons (tVar 5) tNil)) (tC (.int 14)))) (tCons (tOp xAdd (tC (.int 1)) (tVar 5)) (tCons (tOp xSub (tC (.int 10000)) (tOp xMod (tCB xInt1 (tCons (tVar 5) tNil)) (tC (.int 3)))) tNil)))))) (tOp xMod (tCB xInt1 (tCons (tOp (rIxL K) (tVar 3) (tC (.int 11))) tNil)) (tC (.int 5))))
        [some (.ref a), some (.int (i : Int)), z2, some (.ref p), some (.int n), some (.int pick), z6, z7] H4 (.int mm) := by
      have h14 : 0 ≤ pick % 14 ∧ pick % 14 ≤ 13 := by omega
      have ea : EvA (tCons (tOp xAdd (tC (.int 1)) (tOp xMod (tCB xInt1 (tCons (tVar 5) tNil)) (tC (.int 40)))) (tCons (tOp xAdd (tC (.int 1)) (tOp xMod (tOp xMul (tVar 5) (tC (.int 10))) (tC (.int 10000)))) (tCons (tOp xShl (tC (.int 1)) (tOp xMod (tCB xInt1 (tCons (tVar 5) tNil)) (tC (.int 14)))) (tCons (tOp xAdd (tC (.int 1)) (tVar 5)) (tCons (tOp xSub (tC (.int 10000)) (tOp xMod (tCB xInt1 (tCons (tVar 5) tNil)) (tC (.int 3)))) tNil)))))
          [some (.ref a), some (.int (i : Int)), z2, some (.ref p), some (.int n), some (.int pick), z6, z7] H4 [.int (1 + pick % 40), .int (1 + pick * 10 % 10000), .int (1 * 2 ^ (pick % 14).toNat), .int (1 + pick), .int (10000 - pick % 3)] :=
        ea_cons (ev_add ev_c (ev_mod (ev_int1 (ev_var rfl)) ev_c (by decide))) (ea_cons (ev_add ev_c (ev_mod (ev_mul (ev_var rfl) ev_c (.inr (by decide))) ev_c (by decide))) (ea_cons (ev_shl ev_c (ev_mod (ev_int1 (ev_var rfl)) ev_c (by decide)) ⟨h14.1, by omega, by decide⟩)
          (ea_cons (ev_add ev_c (ev_var rfl)) (ea_cons (ev_sub ev_c (ev_mod (ev_int1 (ev_var rfl)) ev_c (by decide))) ea_nil))))
      have eb := ev_mod (num (σ := [some (.ref a), some (.int (i : Int)), z2, some (.ref p), some (.int n), some (.int pick), z6, z7]) 11 rfl e4 ev_c rfl (by omega)) (ev_c (v := .int 5)) (by decide)
      have h2p : (1 : Int) ≤ 1 * 2 ^ (pick % 14).toNat ∧ (1 : Int) * 2 ^ (pick % 14).toNat ≤ 8192 := by
        have hx : 2 ^ (pick % 14).toNat ≤ 2 ^ 13 := Nat.pow_le_pow_right (by decide) (by omega)
        have hy : 0 < 2 ^ (pick % 14).toNat := Nat.two_pow_pos _
        have hc : ((2 ^ (pick % 14).toNat : Nat) : Int) = (2 : Int) ^ (pick % 14).toNat := by norm_cast
        rw [Int.one_mul, ← hc]
        have h3 : (2 : Nat) ^ 13 = 8192 := by decide
        omega
      have h5 : l.getD 11 0 % 5 = ((0 : Nat) : Int) ∨ l.getD 11 0 % 5 = ((1 : Nat) : Int) ∨ l.getD 11 0 % 5 = ((2 : Nat) : Int) ∨ l.getD 11 0 % 5 = ((3 : Nat) : Int) ∨ l.getD 11 0 % 5 = ((4 : Nat) : Int) := by omega
      rcases h5 with q | q | q | q | q <;> rw [q] at eb
      · exact ⟨_, by omega, ev_pickL ea (by show 5 ≤ 1000; omega) eb rfl⟩
      · exact ⟨_, by omega, ev_pickL ea (by show 5 ≤ 1000; omega) eb rfl⟩
      · exact ⟨_, by omega, ev_pickL ea (by show 5 ≤ 1000; omega) eb rfl⟩
      · exact ⟨_, by omega, ev_pickL ea (by show 5 ≤ 1000; omega) eb rfl⟩
      · exact ⟨_, by omega, ev_pickL ea (by show 5 ≤ 1000; omega) eb rfl⟩
    obtain ⟨mm, hm12, hmev⟩ := hmm
    refine q_asg hmev fun H5 e5 => ?_
    have hex : ∃ ee : Nat, ee < 7000 ∧ Ev (tOp (rIxL K) (tLst (tCons (tOp xMod (tCB xInt1 (tCons (tOp (rIxL K) (tVar 3) (tC (.int 12))) tNil)) (tC (.int 30))) (tCons (tOp xMul (tCB xInt1 (tCons (tOp (rIxL K) (tVar 3) (tC (.int 12))) tNil)) (tC (.int 7))) tNil))) (tOp xMod (tCB xInt1 (tCons (tOp (rIxL K) (tVar 3) (tC (.int 13))) tNil)) (tC (.int 2))))
        [some (.ref a), some (.int (i : Int)), z2, some (.ref p), some (.int n), some (.int pick), some (.int mm), z7] H5 (.int (ee : Int)) := by
      have ea : EvA (tCons (tOp xMod (tCB xInt1 (tCons (tOp (rIxL K) (tVar 3) (tC (.int 12))) tNil)) (tC (.int 30))) (tCons (tOp xMul (tCB xInt1 (tCons (tOp (rIxL K) (tVar 3) (tC (.int 12))) tNil)) (tC (.int 7))) tNil))
          [some (.ref a), some (.int (i : Int)), z2, some (.ref p), some (.int n), some (.int pick), some (.int mm), z7] H5 [.int (l.getD 12 0 % 30), .int (l.getD 12 0 * 7)] :=
        ea_cons (ev_mod (num 12 rfl (e4.trans e5) ev_c rfl (by omega)) ev_c (by decide)) (ea_cons (ev_mul (num 12 rfl (e4.trans e5) ev_c rfl (by omega)) ev_c (.inr (by decide))) ea_nil)
      have eb := ev_mod (num (σ := [some (.ref a), some (.int (i : Int)), z2, some (.ref p), some (.int n), some (.int pick), some (.int mm), z7]) 13 rfl (e4.trans e5) ev_c rfl (by omega)) (ev_c (v := .int 2)) (by decide)
      rcases mod2 (l.getD 13 0) with q | q <;> rw [q] at eb
      · exact ⟨(l.getD 12 0 % 30).toNat, by omega, ev_is (ev_pickL ea (by show 2 ≤ 1000; omega) eb rfl) (congrArg V.int (by omega))⟩
      · exact ⟨(l.getD 12 0 * 7).toNat, by omega, ev_is (ev_pickL ea (by show 2 ≤ 1000; omega) eb rfl) (congrArg V.int (by omega))⟩
    obtain ⟨ee, he, heev⟩ := hex
    refine q_asg heev fun H6 e6 => ?_
    refine q_when (b := !true) (et_not (et_B (ev_er (er_call3 (R1 := fun v _ => v = .int n) (R2 := fun v _ => v = .int (ee : Int)) (R3 := fun v _ => v = .int mm) (er_is (ev_var rfl)) monoC (er_is (ev_var rfl)) monoC (er_is (ev_var rfl)) monoC fun v w u H7 e7 g1 g2 g3 => ⟨n, mm, ee, g1, g2, g3, hp, he, hm12.1, hm12.2, rfl⟩)))) (fun h => by cases h) fun _ H7 e7 => ?_
    obtain ⟨mn, rfl⟩ : ∃ mn : Nat, mm = (mn : Int) := ⟨mm.toNat, by omega⟩
    refine s_when (b := false) (et_test (ev_neRows (m := mn) ?_ ?_)) (fun h => by cases h) fun _ H8 e8 => ⟨_, _, _, _, _, _, _, rfl, e1.trans (e2.trans (e3.trans (e4.trans (e5.trans (e6.trans (e7.trans e8))))))⟩
    · refine er_call (ea_one (R := fun v _ => v = .int (mn : Int)) (er_is (ev_var rfl)) monoC) fun vs H8 e8 ⟨v, hv, hv2⟩ => ?_
      subst hv hv2
      exact srx1 (P := pPowsTwo CN) ⟨mn, rfl, fun _ n' l' q H' g1 g2 => ⟨q, n', l', rfl, by simpa using g1, g2⟩, fun h => absurd hm12 h⟩
    · exact er_call1 (R1 := fun v _ => v = .int (mn : Int)) (er_is (ev_var rfl)) monoC fun v H8 e8 hv => ⟨mn, hv, by omega, by omega, rfl⟩
  · rintro σ H' ⟨z1, z2, z3, z4, z5, z6, z7, rfl, e1⟩
    refine q_forR1 (n := 3) (ea_cons ev_c ea_nil) ⟨by decide, by decide⟩ (fun i σ H' => ∃ z1 z2 z3 z4 z5 z6 z7 : Option V, σ = [some (.ref a), z1, z2, z3, z4, z5, z6, z7] ∧ Ex H H') (fun H2 e2 => ⟨_, _, _, _, _, _, _, rfl, e1.trans e2⟩) ?_ ?_
    · rintro i σ H2 hi ⟨z1, z2, z3, z4, z5, z6, z7, rfl, e2⟩
      refine s_when (b := !(true && (true && true))) (et_not (et_and (et_B (ev_refused (ev_var rfl) ev_c (.inl ⟨by omega, by omega, by omega⟩))) fun _ => et_and (et_B (ev_refused (ev_var rfl) (ev_neg ev_c) (.inl ⟨by omega, by omega, by omega⟩))) fun _ => et_B (ev_refused (ev_var rfl) ev_c (.inl ⟨by omega, by omega, by omega⟩)))) (fun h => by cases h) fun _ H3 e3 => ⟨_, _, _, _, _, _, _, rfl, e2.trans e3⟩
    · rintro σ H2 ⟨z1, z2, z3, z4, z5, z6, z7, rfl, e2⟩
      refine s_ret (v := .bl (true && true)) (ev_andV (ev_refused ev_c ev_c (.inr ⟨rfl, rfl⟩)) fun _ => ev_is (ev_eq ev_c ev_c rfl) (by rw [decide_eq_true rfl])) fun H3 e3 => k _ _ (e2.trans e3) rfl
end
end Sk

namespace Sk
open PySem PySem.Spec PyProof.Rows L2 Evl
def top (i : Nat) : Stmt := PySem.Challenge.pw_sandreckoner_k15_remainders_of_plain_num.main.body.getD i (.Pass ⟨0, 0, 0, 0⟩)
section
variable {P : Program} {w : World} {K : PySem.W.Frag} {mg : Str → Option Value} {base : Heap}
abbrev s_c_ReckonError : Stmt := inClass (top 1) 0
theorem sc_c_ReckonError : FnScope ["self", "why", "word"] ["self", "why", "word"] (defScope s_c_ReckonError) := ⟨rfl, rfl, rfl, by decide +kernel, rfl, by decide +kernel, by decide +kernel⟩
theorem ok_c_ReckonError {f : Addr} {fd : FuncData} {dvs : List V} (F : FunD K "__init__" "ReckonError.__init__" (defArgs s_c_ReckonError) (defBody s_c_ReckonError) (defScope s_c_ReckonError) dvs [] f fd) (bV : mg "ValueError" = none) (vV : PySem.W.findCls K (.type "ValueError") (.type "type") "__init__" = some (.val (.builtin "ValueError.__init__"))) : FnOk P w K mg base CX0 1 f fd ["self", "why", "word"] (sp_rinit K) := by
  refine F.ok (k := 0) sc_c_ReckonError (fun vs H Q E h => by obtain ⟨a, C, u, w, rfl, _⟩ := h; rfl) (fun cdv A outer s H vs Q E hr h => ⟨t_rinit K, ?_, pure_rinit h⟩)
  exact (pss_cons (ps_expr (pe_veinit (by rfl) bV vV (pa_cons (pv 0) (pa_cons (pv 1) pa_nil)))) (pss_one (ps_ost (pv 0) (pv 2))))
abbrev s_c_NotAllowed : Stmt := inClass (top 2) 0
theorem sc_c_NotAllowed : FnScope ["self", "why"] ["self", "why"] (defScope s_c_NotAllowed) := ⟨rfl, rfl, rfl, by decide +kernel, rfl, by decide +kernel, by decide +kernel⟩
theorem ok_c_NotAllowed {f fR aR : Addr} {fd fdR : FuncData} {dvs : List V} (F : FunD K "__init__" "NotAllowed.__init__" (defArgs s_c_NotAllowed) (defBody s_c_NotAllowed) (defScope s_c_NotAllowed) dvs [] f fd) (mR : mg "ReckonError" = some (.ref aR)) (r : ClX.CRead K aR (.type "type")) (c : ClX.CVal K aR (.type "type") "__init__" (.ref fR) (.ref fR)) (kp : PySem.W.keepIn K (.ref fR) = true) (G : FnOk P w K mg base CX0 1 fR fdR ["self", "why", "word"] (sp_rinit K)) (b : Binds K fdR ["self", "why", "word"] []) : FnOk P w K mg base CX0 2 f fd ["self", "why"] (sp_cinit K (wordOf "NotAllowed")) := by
  refine F.ok (k := 1) sc_c_NotAllowed (fun vs H Q E h => by obtain ⟨a, C, u, rfl, _⟩ := h; rfl) (fun cdv A outer s H vs Q E hr h => ⟨t_cinit K aR (wordOf "NotAllowed"), ?_, pure_cinit h⟩)
  exact (pss_one (ps_expr (pe_cfn (by rfl) mR r c kp G hr b pass0 (pa_cons (pv 0) (pa_cons (pv 1) (pa_cons pe_str pa_nil))))))
abbrev s_c_TooLarge : Stmt := inClass (top 3) 0
theorem sc_c_TooLarge : FnScope ["self", "why"] ["self", "why"] (defScope s_c_TooLarge) := ⟨rfl, rfl, rfl, by decide +kernel, rfl, by decide +kernel, by decide +kernel⟩
theorem ok_c_TooLarge {f fR aR : Addr} {fd fdR : FuncData} {dvs : List V} (F : FunD K "__init__" "TooLarge.__init__" (defArgs s_c_TooLarge) (defBody s_c_TooLarge) (defScope s_c_TooLarge) dvs [] f fd) (mR : mg "ReckonError" = some (.ref aR)) (r : ClX.CRead K aR (.type "type")) (c : ClX.CVal K aR (.type "type") "__init__" (.ref fR) (.ref fR)) (kp : PySem.W.keepIn K (.ref fR) = true) (G : FnOk P w K mg base CX0 1 fR fdR ["self", "why", "word"] (sp_rinit K)) (b : Binds K fdR ["self", "why", "word"] []) : FnOk P w K mg base CX0 2 f fd ["self", "why"] (sp_cinit K (wordOf "TooLarge")) := by
  refine F.ok (k := 1) sc_c_TooLarge (fun vs H Q E h => by obtain ⟨a, C, u, rfl, _⟩ := h; rfl) (fun cdv A outer s H vs Q E hr h => ⟨t_cinit K aR (wordOf "TooLarge"), ?_, pure_cinit h⟩)
  exact (pss_one (ps_expr (pe_cfn (by rfl) mR r c kp G hr b pass0 (pa_cons (pv 0) (pa_cons (pv 1) (pa_cons pe_str pa_nil))))))
abbrev s_signed_places : Stmt := top 8
abbrev N_signed_places : List Str := ["value", "found", "place", "zeros", "sign"]
theorem sc_signed_places : FnScope N_signed_places ["value"] (defScope s_signed_places) := ⟨rfl, rfl, rfl, by decide +kernel, rfl, by decide +kernel, by decide +kernel⟩
abbrev s_bare_number : Stmt := top 9
abbrev N_bare_number : List Str := ["value", "sign", "place"]
theorem sc_bare_number : FnScope N_bare_number ["value"] (defScope s_bare_number) := ⟨rfl, rfl, rfl, by decide +kernel, rfl, by decide +kernel, by decide +kernel⟩
abbrev s_value_within : Stmt := top 10
abbrev N_value_within : List Str := ["number", "bits", "total", "sign", "exponent", "place"]
theorem sc_value_within : FnScope N_value_within ["number", "bits"] (defScope s_value_within) := ⟨rfl, rfl, rfl, by decide +kernel, rfl, by decide +kernel, by decide +kernel⟩
abbrev s_levels : Stmt := top 15
abbrev N_levels : List Str := ["number", "rows", "row", "item", "_", "exponent"]
theorem sc_levels : FnScope N_levels ["number"] (defScope s_levels) := ⟨rfl, rfl, rfl, by decide +kernel, rfl, by decide +kernel, by decide +kernel⟩
abbrev s_is_allowed : Stmt := top 16
abbrev N_is_allowed : List Str := ["number", "rows", "row"]
theorem sc_is_allowed : FnScope N_is_allowed ["number"] (defScope s_is_allowed) := ⟨rfl, rfl, rfl, by decide +kernel, rfl, by decide +kernel, by decide +kernel⟩
abbrev s_allowed : Stmt := top 17
abbrev N_allowed : List Str := ["number"]
theorem sc_allowed : FnScope N_allowed ["number"] (defScope s_allowed) := ⟨rfl, rfl, rfl, by decide +kernel, rfl, by decide +kernel, by decide +kernel⟩
abbrev s_sign_of : Stmt := top 18
abbrev N_sign_of : List Str := ["number"]
theorem sc_sign_of : FnScope N_sign_of ["number"] (defScope s_sign_of) := ⟨rfl, rfl, rfl, by decide +kernel, rfl, by decide +kernel, by decide +kernel⟩
abbrev s_of_int : Stmt := top 19
abbrev N_of_int : List Str := ["value"]
theorem sc_of_int : FnScope N_of_int ["value"] (defScope s_of_int) := ⟨rfl, rfl, rfl, by decide +kernel, rfl, by decide +kernel, by decide +kernel⟩
abbrev s_check_modulus : Stmt := top 22
abbrev N_check_modulus : List Str := ["m"]
theorem sc_check_modulus : FnScope N_check_modulus ["m"] (defScope s_check_modulus) := ⟨rfl, rfl, rfl, by decide +kernel, rfl, by decide +kernel, by decide +kernel⟩
abbrev s_power_row : Stmt := top 23
abbrev N_power_row : List Str := ["m", "powers", "places", "power"]
theorem sc_power_row : FnScope N_power_row ["m"] (defScope s_power_row) := ⟨rfl, rfl, rfl, by decide +kernel, rfl, by decide +kernel, by decide +kernel⟩
abbrev s_power_rows : Stmt := top 24
abbrev N_power_rows : List Str := ["m", "rows", "powers", "lead"]
theorem sc_power_rows : FnScope N_power_rows ["m"] (defScope s_power_rows) := ⟨rfl, rfl, rfl, by decide +kernel, rfl, by decide +kernel, by decide +kernel⟩
abbrev s_power_by_rows : Stmt := top 26
abbrev N_power_by_rows : List Str := ["exponent", "rows", "at", "place", "turns", "_", "powers", "lead"]
theorem sc_power_by_rows : FnScope N_power_by_rows ["exponent", "rows", "at"] (defScope s_power_by_rows) := ⟨rfl, rfl, rfl, by decide +kernel, rfl, by decide +kernel, by decide +kernel⟩
abbrev s_number_by_rows : Stmt := top 25
abbrev N_number_by_rows : List Str := ["x", "rows", "at", "sign", "exponent"]
theorem sc_number_by_rows : FnScope N_number_by_rows ["x", "rows", "at"] (defScope s_number_by_rows) := ⟨rfl, rfl, rfl, by decide +kernel, rfl, by decide +kernel, by decide +kernel⟩
abbrev s_remainder : Stmt := top 27
abbrev N_remainder : List Str := ["x", "m"]
theorem sc_remainder : FnScope N_remainder ["x", "m"] (defScope s_remainder) := ⟨rfl, rfl, rfl, by decide +kernel, rfl, by decide +kernel, by decide +kernel⟩
abbrev s_power_remainder : Stmt := top 28
abbrev N_power_remainder : List Str := ["exponent", "m"]
theorem sc_power_remainder : FnScope N_power_remainder ["exponent", "m"] (defScope s_power_remainder) := ⟨rfl, rfl, rfl, by decide +kernel, rfl, by decide +kernel, by decide +kernel⟩
abbrev s_powers_of_two : Stmt := top 29
abbrev N_powers_of_two : List Str := ["m", "powers", "lead"]
theorem sc_powers_of_two : FnScope N_powers_of_two ["m"] (defScope s_powers_of_two) := ⟨rfl, rfl, rfl, by decide +kernel, rfl, by decide +kernel, by decide +kernel⟩
abbrev s_law_cell : Stmt := top 31
abbrev N_law_cell : List Str := ["script", "k"]
theorem sc_law_cell : FnScope N_law_cell ["script", "k"] (defScope s_law_cell) := ⟨rfl, rfl, rfl, by decide +kernel, rfl, by decide +kernel, by decide +kernel⟩
abbrev s_law_numbers : Stmt := top 32
abbrev N_law_numbers : List Str := ["cell", "k", "many", "numbers", "mixed", "j", "rest", "twice"]
theorem sc_law_numbers : FnScope N_law_numbers ["cell", "k", "many"] (defScope s_law_numbers) := ⟨rfl, rfl, rfl, by decide +kernel, rfl, by decide +kernel, by decide +kernel⟩
abbrev s_law_plain : Stmt := top 33
abbrev N_law_plain : List Str := ["numbers", "at", "most", "value", "k", "place"]
theorem sc_law_plain : FnScope N_law_plain ["numbers", "at", "most"] (defScope s_law_plain) := ⟨rfl, rfl, rfl, by decide +kernel, rfl, by decide +kernel, by decide +kernel⟩
abbrev s_law_cycle : Stmt := top 34
abbrev N_law_cycle : List Str := ["m", "seen", "power", "k"]
theorem sc_law_cycle : FnScope N_law_cycle ["m"] (defScope s_law_cycle) := ⟨rfl, rfl, rfl, by decide +kernel, rfl, by decide +kernel, by decide +kernel⟩
abbrev s_law_refused : Stmt := top 35
abbrev N_law_refused : List Str := ["door", "m", "e"]
theorem sc_law_refused : FnScope N_law_refused ["door", "m"] (defScope s_law_refused) := ⟨rfl, rfl, rfl, by decide +kernel, rfl, by decide +kernel, by decide +kernel⟩
abbrev s_law_agrees : Stmt := top 36
abbrev N_law_agrees : List Str := ["value", "exponent", "m", "number"]
theorem sc_law_agrees : FnScope N_law_agrees ["value", "exponent", "m"] (defScope s_law_agrees) := ⟨rfl, rfl, rfl, by decide +kernel, rfl, by decide +kernel, by decide +kernel⟩
abbrev s_law : Stmt := top 37
abbrev N_law : List Str := ["script", "k", "door", "numbers", "value", "pick", "m", "exponent"]
theorem sc_law : FnScope N_law ["script"] (defScope s_law) := ⟨rfl, rfl, rfl, by decide +kernel, rfl, by decide +kernel, by decide +kernel⟩
theorem ok_signed_places {f : Addr} {fd : FuncData} {k : Nat} (D : DefAt K mg "signed_places" s_signed_places ["value"] f fd) : FnOk P w K mg base CX0 (k + 1) f fd ["value"] (sp_signed_places K) := by
  have nd := sc_signed_places.nd
  refine D.fn.ok sc_signed_places (fun vs H Q E h => spF1.len h) (fun cdv A outer s H vs Q E hr h => ⟨t_signed_places K, ?_, pure_signed_places h⟩)
  exact (pss_cons (ps_set (i := 1) nd rfl (.inl rfl) (pe_lst pa_nil))
      (pss_cons (ps_set (i := 2) nd rfl (.inl rfl) pe_int)
      (pss_cons (ps_while PassesOwn.never (pt_cmpR op_ne (pv 0) pe_int (nomark _)) (pss_cons (ps_set (i := 3) nd rfl (.inl rfl) (pe_op op_sub (pe_bits (pe_op op_low (pv 0) (pe_un un_neg (pv 0)))) pe_int))
      (pss_cons (ps_aug (i := 2) nd rfl (.inl rfl) (pv 3) ip_add)
      (pss_cons (ps_aug (i := 0) nd rfl (.inl rfl) (pv 3) ip_shr)
      (pss_cons (ps_set (i := 4) nd rfl (.inl rfl) (pe_op op_sub pe_int (pe_op op_andM (pv 0) pe_int)))
      (pss_cons (ps_expr (pe_bm PySem.F.plainAttrs_list PySem.F.slot_list_append PySem.F.type_list_append mt_append (pv 1) (pa_cons (pe_tup (pa_cons (pv 4) (pa_cons (pv 2) pa_nil))) pa_nil)))
      (pss_one (ps_aug (i := 0) nd rfl (.inl rfl) (pv 4) ip_sub))))))))
      (pss_one (ps_ret (pv 1))))))
theorem ok_bare_number {f : Addr} {fd : FuncData} {k : Nat} {d : Nat} (D : DefAt K mg "bare_number" s_bare_number ["value"] f fd) {f_signed_places : Addr} {fd_signed_places : FuncData} {k_signed_places : Nat} (D_signed_places : DefAt K mg "signed_places" s_signed_places ["value"] f_signed_places fd_signed_places) (G_signed_places : FnOk P w K mg base CX0 k_signed_places f_signed_places fd_signed_places ["value"] (sp_signed_places K)) (hk_signed_places : k_signed_places ≤ k) (b_tuple : mg "tuple" = none) {t_FIRST_END : Tok} (m_FIRST_END : mg "FIRST_END" = some (.int 8 t_FIRST_END)) {a_FIRST_NUMBERS : Addr} (m_FIRST_NUMBERS : mg "FIRST_NUMBERS" = some (.ref a_FIRST_NUMBERS)) (d_FIRST_NUMBERS : FirstAt K a_FIRST_NUMBERS) (G_bare_number : FnOk P w K mg base CX0 k f fd ["value"] (sp_bare_number K d)) : FnOk P w K mg base CX0 (k + 1) f fd ["value"] (sp_bare_number K (d + 1)) := by
  have D_bare_number := D
  have nd := sc_bare_number.nd
  refine D.fn.ok sc_bare_number (fun vs H Q E h => spF1.len h) (fun cdv A outer s H vs Q E hr h => ⟨t_bare_number K a_FIRST_NUMBERS d, ?_, pure_bare_number d_FIRST_NUMBERS h⟩)
  exact (pss_cons (ps_if (pt_chain op_le op_lt pe_int (pv 0) (pe_glob rfl m_FIRST_END ⟨_, rfl⟩)) (pss_one (ps_ret (pe_ix ix_tup (pe_glob rfl m_FIRST_NUMBERS rfl) (pv 0) (fun _ _ => rfl)))) pss_nil)
      (pss_one (ps_ret (pe_tupleOf rfl b_tuple (pe_lc (own := [("sign", 1), ("place", 2)]) (g := (gTup K 2 (gCons (gName 1) (gCons (gName 2) gNil)))) (tt := tYes) (te := (tTup (tCons (tVar 1) (tCons (tCall (sp_bare_number K d) [] E0 (tCons (tVar 2) tNil)) tNil)))) rfl nd (pi_list (pe_revL (pe_call G_signed_places (hr.mono hk_signed_places) rfl D_signed_places.m D_signed_places.fn.kp D_signed_places.b .nil pass0 (pa_cons (pv 0) pa_nil)))) (blkOk_by (own := [("sign", 1), ("place", 2)]) (N := N_bare_number) (sc := defScope s_bare_number) (by decide +kernel)) (fun _ _ _ _ _ => (pg_tup rfl (pgs_cons (pg_name (i := 1) nd rfl (.inl rfl)) (pgs_cons (pg_name (i := 2) nd rfl (.inl rfl)) pgs_nil)))) (fun _ _ _ _ _ => pts_nil) (fun _ _ _ _ _ => (pe_tup (pa_cons (pv 1) (pa_cons (pe_call G_bare_number hr rfl D_bare_number.m D_bare_number.fn.kp D_bare_number.b .nil pass0 (pa_cons (pv 2) pa_nil)) pa_nil)))))))))
theorem ok_value_within {f : Addr} {fd : FuncData} {k : Nat} {d : Nat} (D : DefAt K mg "value_within" s_value_within ["number", "bits"] f fd) {t_FIRST_END : Tok} (m_FIRST_END : mg "FIRST_END" = some (.int 8 t_FIRST_END)) {a_FIRST_NUMBERS : Addr} (m_FIRST_NUMBERS : mg "FIRST_NUMBERS" = some (.ref a_FIRST_NUMBERS)) (d_FIRST_NUMBERS : FirstAt K a_FIRST_NUMBERS) (G_value_within : FnOk P w K mg base CX0 k f fd ["number", "bits"] (sp_value_within K d)) : FnOk P w K mg base CX0 (k + 1) f fd ["number", "bits"] (sp_value_within K (d + 1)) := by
  have D_value_within := D
  have nd := sc_value_within.nd
  refine D.fn.ok sc_value_within (fun vs H Q E h => spF2.len h) (fun cdv A outer s H vs Q E hr h => ⟨t_value_within K a_FIRST_NUMBERS d, ?_, pure_value_within d_FIRST_NUMBERS h⟩)
  exact (pss_cons (ps_set (i := 2) nd rfl (.inl rfl) pe_int)
      (pss_cons (ps_for PassesOwn.never rfl (pi_tup (pv 0)) (pg_tup rfl (pgs_cons (pg_name (i := 3) nd rfl (.inl rfl)) (pgs_cons (pg_name (i := 4) nd rfl (.inl rfl)) pgs_nil))) (pss_cons (ps_if (pt_cmpR op_ge (pv 1) (pe_glob rfl m_FIRST_END ⟨_, rfl⟩) (nomark _)) (pss_one (ps_set (i := 5) nd rfl (.inl rfl) (pe_call G_value_within hr rfl D_value_within.m D_value_within.fn.kp D_value_within.b .nil pass0 (pa_cons (pv 4) (pa_cons (pe_bits (pv 1)) pa_nil))))) (pss_one (ps_if (pt_cmpR (op_inN (hu150 hr)) (pv 4) (pe_glob rfl m_FIRST_NUMBERS rfl) (by rfl)) (pss_one (ps_set (i := 5) nd rfl (.inl rfl) (pe_bm PySem.F.plainAttrs_tuple PySem.F.slot_tuple_index PySem.F.type_tuple_index (mt_indexN (hu150 hr)) (pe_glob rfl m_FIRST_NUMBERS rfl) (pa_cons (pv 4) pa_nil)))) (pss_one (ps_ret pe_non)))))
      (pss_cons (ps_if (PW.pt (pw_or (pt_cmpR op_isN (pv 5) pe_non (nomark _)) (pw_or1 (pt_cmpR op_gt (pv 5) (pv 1) (nomark _))))) (pss_one (ps_ret pe_non)) pss_nil)
      (pss_one (ps_aug (i := 2) nd rfl (.inl rfl) (pe_op op_shl (pv 3) (pv 5)) ip_add)))))
      (pss_one (ps_ret (pv 2)))))
theorem ok_levels {f : Addr} {fd : FuncData} {k : Nat} (D : DefAt K mg "levels" s_levels ["number"] f fd) : FnOk P w K mg base CX0 (k + 1) f fd ["number"] (sp_levels K) := by
  have nd := sc_levels.nd
  refine D.fn.ok sc_levels (fun vs H Q E h => spF1.len h) (fun cdv A outer s H vs Q E hr h => ⟨t_levels K, ?_, pure_levels h⟩)
  exact (pss_cons (ps_set (i := 1) nd rfl (.inl rfl) (pe_lst pa_nil))
      (pss_cons (ps_set (i := 2) nd rfl (.inl rfl) (pe_lst (pa_cons (pv 0) pa_nil)))
      (pss_cons (ps_while PassesOwn.never (pt_truth (pv 2) (by intro _; rfl)) (pss_cons (ps_expr (pe_bm PySem.F.plainAttrs_list PySem.F.slot_list_append PySem.F.type_list_append mt_append (pv 1) (pa_cons (pv 2) pa_nil)))
      (pss_one (ps_setLc2 (i := 2) (own := [("item", 3), ("_", 4), ("exponent", 5)]) (g := (gName 3)) (tt := tYes) (g1 := (gTup K 2 (gCons (gName 4) (gCons (gName 5) gNil)))) (tt1 := tYes) (te := (tVar 5)) (vs1 := [4, 5]) rfl nd rfl rfl (sw_true rfl rfl rfl (by decide +kernel)) (pi_list (pv 2)) (blkOk_by (own := [("item", 3), ("_", 4), ("exponent", 5)]) (N := N_levels) (sc := defScope s_levels) (by decide +kernel)) (by decide) (fun _ _ _ _ _ => (pg_name (i := 3) nd rfl (.inl rfl))) (fun _ _ _ _ _ => pts_nil) (fun _ _ _ _ _ => (pi_tup (pv 3))) (fun _ _ _ _ _ => (pg_tup rfl (pgs_cons (pg_name (i := 4) nd rfl (.inl rfl)) (pgs_cons (pg_name (i := 5) nd rfl (.inl rfl)) pgs_nil)))) (fun _ _ _ _ _ => pts_nil) (fun _ _ _ _ _ => (pv 5))))))
      (pss_one (ps_ret (pv 1))))))
theorem ok_is_allowed {f : Addr} {fd : FuncData} {k : Nat} (D : DefAt K mg "is_allowed" s_is_allowed ["number"] f fd) {f_levels : Addr} {fd_levels : FuncData} {k_levels : Nat} (D_levels : DefAt K mg "levels" s_levels ["number"] f_levels fd_levels) (G_levels : FnOk P w K mg base CX0 k_levels f_levels fd_levels ["number"] (sp_levels K)) (hk_levels : k_levels ≤ k) (b_sum : mg "sum" = none) (b_len : mg "len" = none) {t_MAX_SIZE : Tok} (m_MAX_SIZE : mg "MAX_SIZE" = some (.int 300 t_MAX_SIZE)) {t_MAX_HEIGHT : Tok} (m_MAX_HEIGHT : mg "MAX_HEIGHT" = some (.int 40 t_MAX_HEIGHT)) : FnOk P w K mg base CX0 (k + 1) f fd ["number"] (sp_is_allowed K) := by
  have nd := sc_is_allowed.nd
  refine D.fn.ok sc_is_allowed (fun vs H Q E h => spF1.len h) (fun cdv A outer s H vs Q E hr h => ⟨t_is_allowed K, ?_, pure_is_allowed h⟩)
  exact (pss_cons (ps_set (i := 1) nd rfl (.inl rfl) (pe_call G_levels (hr.mono hk_levels) rfl D_levels.m D_levels.fn.kp D_levels.b .nil pass0 (pa_cons (pv 0) pa_nil)))
      (pss_one (ps_ret (pe_and (pe_cmpR op_le (pe_callB (cr_sum rfl) (by rfl) b_sum (by decide +kernel) (pa_cons (pe_lc (own := [("row", 2)]) (g := (gName 2)) (tt := tYes) (te := (tCB (rLenS K) (tCons (tVar 2) tNil))) rfl nd (pi_list (pv 1)) (blkOk_by (own := [("row", 2)]) (N := N_is_allowed) (sc := defScope s_is_allowed) (by decide +kernel)) (fun _ _ _ _ _ => (pg_name (i := 2) nd rfl (.inl rfl))) (fun _ _ _ _ _ => pts_nil) (fun _ _ _ _ _ => (pe_callB call_len_seq (by rfl) b_len PySem.boot_len (pa_cons (pv 2) pa_nil)))) pa_nil)) (pe_glob rfl m_MAX_SIZE ⟨_, rfl⟩) (nomark _)) (pe_one (pe_cmpR op_le (pe_callB call_len_seq (by rfl) b_len PySem.boot_len (pa_cons (pv 1) pa_nil)) (pe_op op_add (pe_glob rfl m_MAX_HEIGHT ⟨_, rfl⟩) pe_int) (nomark _)))))))
theorem ok_allowed {f : Addr} {fd : FuncData} {k : Nat} (D : DefAt K mg "allowed" s_allowed ["number"] f fd) {a_TooLarge : Addr} (C_TooLarge : ClsAt K mg "TooLarge" a_TooLarge) (X_TooLarge : ErrC P w K mg base "TooLarge" a_TooLarge) (hk3 : 3 ≤ k) {f_is_allowed : Addr} {fd_is_allowed : FuncData} {k_is_allowed : Nat} (D_is_allowed : DefAt K mg "is_allowed" s_is_allowed ["number"] f_is_allowed fd_is_allowed) (G_is_allowed : FnOk P w K mg base CX0 k_is_allowed f_is_allowed fd_is_allowed ["number"] (sp_is_allowed K)) (hk_is_allowed : k_is_allowed ≤ k) : FnOk P w K mg base (L2.CX P w) (k + 1) f fd ["number"] (sp_allowed K a_TooLarge) := by
  have nd := sc_allowed.nd
  refine D.fn.okX sc_allowed (fun vs H Q E h => spX1.len h) (fun cdv A outer s H vs Q E hr h => ⟨t_allowed K a_TooLarge E, ?_, pure_allowed h⟩)
  exact (pss_cons (ps_if (pt_not (pt_val (pe_call G_is_allowed (hr.mono hk_is_allowed) rfl D_is_allowed.m D_is_allowed.fn.kp D_is_allowed.b .nil pass0 (pa_cons (pv 0) pa_nil)))) (pss_one (ps_err rfl (takes_of rfl rfl rfl rfl) rfl X_TooLarge (hr.mono hk3) (by rfl))) pss_nil)
      (pss_one (ps_ret (pv 0))))
theorem ok_sign_of {f : Addr} {fd : FuncData} {k : Nat} (D : DefAt K mg "sign_of" s_sign_of ["number"] f fd) : FnOk P w K mg base CX0 (k + 1) f fd ["number"] (sp_sign_of K) := by
  have nd := sc_sign_of.nd
  refine D.fn.ok sc_sign_of (fun vs H Q E h => spF1.len h) (fun cdv A outer s H vs Q E hr h => ⟨t_sign_of K, ?_, pure_sign_of h⟩)
  exact (pss_one (ps_ret (pe_ifExp (pt_truth (pv 0) (by intro _; rfl)) (pe_ix ix_tup (pe_ix ix_tup (pv 0) pe_int (fun _ _ => rfl)) pe_int (fun _ _ => rfl)) pe_int)))
theorem ok_of_int {f : Addr} {fd : FuncData} {k : Nat} (D : DefAt K mg "of_int" s_of_int ["value"] f fd) {a_NotAllowed : Addr} (C_NotAllowed : ClsAt K mg "NotAllowed" a_NotAllowed) {a_TooLarge : Addr} (C_TooLarge : ClsAt K mg "TooLarge" a_TooLarge) (X_NotAllowed : ErrC P w K mg base "NotAllowed" a_NotAllowed) (hk3 : 3 ≤ k) {f_allowed : Addr} {fd_allowed : FuncData} {k_allowed : Nat} (D_allowed : DefAt K mg "allowed" s_allowed ["number"] f_allowed fd_allowed) (G_allowed : FnOk P w K mg base (L2.CX P w) k_allowed f_allowed fd_allowed ["number"] (sp_allowed K a_TooLarge)) (hk_allowed : k_allowed ≤ k) {f_bare_number : Addr} {fd_bare_number : FuncData} {k_bare_number : Nat} (D_bare_number : DefAt K mg "bare_number" s_bare_number ["value"] f_bare_number fd_bare_number) (G_bare_number : FnOk P w K mg base CX0 k_bare_number f_bare_number fd_bare_number ["value"] (sp_bare_number K 7)) (hk_bare_number : k_bare_number ≤ k) {t_MAX_GIVEN_BITS : Tok} (m_MAX_GIVEN_BITS : mg "MAX_GIVEN_BITS" = some (.int 2900 t_MAX_GIVEN_BITS)) : FnOk P w K mg base (L2.CX P w) (k + 1) f fd ["value"] (sp_of_int K a_NotAllowed a_TooLarge) := by
  have nd := sc_of_int.nd
  refine D.fn.okX sc_of_int (fun vs H Q E h => spX1.len h) (fun cdv A outer s H vs Q E hr h => ⟨t_of_int K a_NotAllowed a_TooLarge E, ?_, pure_of_int h⟩)
  exact (pss_cons (ps_if (pt_cmpR op_gt (pe_bits (pv 0)) (pe_glob rfl m_MAX_GIVEN_BITS ⟨_, rfl⟩) (nomark _)) (pss_one (ps_err rfl (takes_of rfl rfl rfl rfl) rfl X_NotAllowed (hr.mono hk3) (by rfl))) pss_nil)
      (pss_one (ps_ret (pe_call G_allowed (hr.mono hk_allowed) rfl D_allowed.m D_allowed.fn.kp D_allowed.b .nil (passes_call (takes_of rfl rfl rfl rfl) (fun _ _ _ _ z => z)) (pa_cons (pe_call G_bare_number (hr.mono hk_bare_number) rfl D_bare_number.m D_bare_number.fn.kp D_bare_number.b .nil pass0 (pa_cons (pv 0) pa_nil)) pa_nil)))))
theorem ok_check_modulus {f : Addr} {fd : FuncData} {k : Nat} (D : DefAt K mg "check_modulus" s_check_modulus ["m"] f fd) {a_NotAllowed : Addr} (C_NotAllowed : ClsAt K mg "NotAllowed" a_NotAllowed) (X_NotAllowed : ErrC P w K mg base "NotAllowed" a_NotAllowed) (hk3 : 3 ≤ k) {t_MAX_MODULUS : Tok} (m_MAX_MODULUS : mg "MAX_MODULUS" = some (.int 10000 t_MAX_MODULUS)) : FnOk P w K mg base (L2.CX P w) (k + 1) f fd ["m"] (sp_check_modulus K a_NotAllowed) := by
  have nd := sc_check_modulus.nd
  refine D.fn.okX sc_check_modulus (fun vs H Q E h => spX1.len h) (fun cdv A outer s H vs Q E hr h => ⟨t_check_modulus K a_NotAllowed E, ?_, pure_check_modulus h⟩)
  exact (pss_one (ps_if (PW.pt (pw_or (pt_cmpR op_lt (pv 0) pe_int (nomark _)) (pw_or1 (pt_cmpR op_gt (pv 0) (pe_glob rfl m_MAX_MODULUS ⟨_, rfl⟩) (nomark _))))) (pss_one (ps_err rfl (takes_of rfl rfl rfl rfl) rfl X_NotAllowed (hr.mono hk3) (by rfl))) pss_nil))
theorem ok_power_row {f : Addr} {fd : FuncData} {k : Nat} (D : DefAt K mg "power_row" s_power_row ["m"] f fd) (b_len : mg "len" = none) : FnOk P w K mg base CX0 (k + 1) f fd ["m"] (sp_power_row K) := by
  have nd := sc_power_row.nd
  refine D.fn.ok sc_power_row (fun vs H Q E h => spF1.len h) (fun cdv A outer s H vs Q E hr h => ⟨t_power_row K, ?_, pure_power_row h⟩)
  exact (pss_cons (ps_set (i := 1) nd rfl (.inl rfl) (pe_lst pa_nil))
      (pss_cons (ps_set (i := 2) nd rfl (.inl rfl) pe_dnewK)
      (pss_cons (ps_set (i := 3) nd rfl (.inl rfl) (pe_op op_mod pe_int (pv 0)))
      (pss_cons (ps_while PassesOwn.never (pt_cmp (pc_dnotin (hu_of hr) (pv 3) (pv 2))) (pss_cons (ps_dput (hu_of hr) (pv 2) (pv 3) (pe_callB call_len_seq (by rfl) b_len PySem.boot_len (pa_cons (pv 1) pa_nil)) rfl)
      (pss_cons (ps_expr (pe_bm PySem.F.plainAttrs_list PySem.F.slot_list_append PySem.F.type_list_append mt_append (pv 1) (pa_cons (pv 3) pa_nil)))
      (pss_one (ps_set (i := 3) nd rfl (.inl rfl) (pe_op op_mod (pe_op op_mul pe_int (pv 3)) (pv 0)))))))
      (pss_one (ps_ret (pe_tup (pa_cons (pv 1) (pa_cons (pe_dget (hu_of hr) (pv 2) (pv 3) (fun _ _ => rfl)) pa_nil)))))))))
theorem ok_power_rows {f : Addr} {fd : FuncData} {k : Nat} (D : DefAt K mg "power_rows" s_power_rows ["m"] f fd) {f_power_row : Addr} {fd_power_row : FuncData} {k_power_row : Nat} (D_power_row : DefAt K mg "power_row" s_power_row ["m"] f_power_row fd_power_row) (G_power_row : FnOk P w K mg base CX0 k_power_row f_power_row fd_power_row ["m"] (sp_power_row K)) (hk_power_row : k_power_row ≤ k) (b_len : mg "len" = none) : FnOk P w K mg base CX0 (k + 1) f fd ["m"] (sp_power_rows K) := by
  have nd := sc_power_rows.nd
  refine D.fn.ok sc_power_rows (fun vs H Q E h => spF1.len h) (fun cdv A outer s H vs Q E hr h => ⟨t_power_rows K, ?_, pure_power_rows h⟩)
  exact (pss_cons (ps_set (i := 1) nd rfl (.inl rfl) (pe_lst pa_nil))
      (pss_cons (ps_while PassesOwn.never (pt_cmpR op_gt (pv 0) pe_int (nomark _)) (pss_cons (ps_asg (pe_call G_power_row (hr.mono hk_power_row) rfl D_power_row.m D_power_row.fn.kp D_power_row.b .nil pass0 (pa_cons (pv 0) pa_nil)) (pg_tup rfl (pgs_cons (pg_name (i := 2) nd rfl (.inl rfl)) (pgs_cons (pg_name (i := 3) nd rfl (.inl rfl)) pgs_nil))))
      (pss_cons (ps_expr (pe_bm PySem.F.plainAttrs_list PySem.F.slot_list_append PySem.F.type_list_append mt_append (pv 1) (pa_cons (pe_tup (pa_cons (pv 0) (pa_cons (pv 2) (pa_cons (pv 3) pa_nil)))) pa_nil)))
      (pss_one (ps_set (i := 0) nd rfl (.inl rfl) (pe_op op_sub (pe_callB call_len_seq (by rfl) b_len PySem.boot_len (pa_cons (pv 2) pa_nil)) (pv 3)))))))
      (pss_one (ps_ret (pv 1)))))
theorem ok_power_by_rows {f : Addr} {fd : FuncData} {k : Nat} {d : Nat} (D : DefAt K mg "power_by_rows" s_power_by_rows ["exponent", "rows", "at"] f fd) {f_value_within : Addr} {fd_value_within : FuncData} {k_value_within : Nat} (D_value_within : DefAt K mg "value_within" s_value_within ["number", "bits"] f_value_within fd_value_within) (G_value_within : FnOk P w K mg base CX0 k_value_within f_value_within fd_value_within ["number", "bits"] (sp_value_within K 45)) (hk_value_within : k_value_within ≤ k) {f_number_by_rows : Addr} {fd_number_by_rows : FuncData} {k_number_by_rows : Nat} (D_number_by_rows : DefAt K mg "number_by_rows" s_number_by_rows ["x", "rows", "at"] f_number_by_rows fd_number_by_rows) (G_number_by_rows : FnOk P w K mg base CX0 k_number_by_rows f_number_by_rows fd_number_by_rows ["x", "rows", "at"] (sp_number_by_rows K d)) (hk_number_by_rows : k_number_by_rows ≤ k) (b_len : mg "len" = none) : FnOk P w K mg base CX0 (k + 1) f fd ["exponent", "rows", "at"] (sp_power_by_rows K d) := by
  have nd := sc_power_by_rows.nd
  refine D.fn.ok sc_power_by_rows (fun vs H Q E h => spF3.len h) (fun cdv A outer s H vs Q E hr h => ⟨t_power_by_rows K d, ?_, pure_power_by_rows h⟩)
  exact (pss_cons (ps_asg (pe_ix ix_list (pv 1) (pv 2) (fun _ _ => rfl)) (pg_tup rfl (pgs_cons (pg_name (i := 5) nd rfl (.inl rfl)) (pgs_cons (pg_name (i := 6) nd rfl (.inl rfl)) (pgs_cons (pg_name (i := 7) nd rfl (.inl rfl)) pgs_nil)))))
      (pss_cons (ps_set (i := 3) nd rfl (.inl rfl) (pe_call G_value_within (hr.mono hk_value_within) rfl D_value_within.m D_value_within.fn.kp D_value_within.b .nil pass0 (pa_cons (pv 0) (pa_cons (pe_bits (pv 7)) pa_nil))))
      (pss_cons (ps_if (PW.pt (pw_and (pt_cmpR op_notN (pv 3) pe_non (nomark _)) (pw_and1 (pt_cmpR op_lt (pv 3) (pv 7) (nomark _))))) (pss_one (ps_ret (pe_ix ix_list (pv 6) (pv 3) (fun _ _ => rfl)))) pss_nil)
      (pss_cons (ps_set (i := 4) nd rfl (.inl rfl) (pe_op op_sub (pe_call G_number_by_rows (hr.mono hk_number_by_rows) rfl D_number_by_rows.m D_number_by_rows.fn.kp D_number_by_rows.b .nil pass0 (pa_cons (pv 0) (pa_cons (pv 1) (pa_cons (pe_op op_add (pv 2) pe_int) pa_nil)))) (pv 7)))
      (pss_one (ps_ret (pe_ix ix_list (pv 6) (pe_op op_add (pv 7) (pe_op op_mod (pv 4) (pe_op op_sub (pe_callB call_len_seq (by rfl) b_len PySem.boot_len (pa_cons (pv 6) pa_nil)) (pv 7)))) (fun _ _ => rfl))))))))
theorem ok_number_by_rows {f : Addr} {fd : FuncData} {k : Nat} {d : Nat} (D : DefAt K mg "number_by_rows" s_number_by_rows ["x", "rows", "at"] f fd) {f_power_by_rows : Addr} {fd_power_by_rows : FuncData} {k_power_by_rows : Nat} (D_power_by_rows : DefAt K mg "power_by_rows" s_power_by_rows ["exponent", "rows", "at"] f_power_by_rows fd_power_by_rows) (G_power_by_rows : FnOk P w K mg base CX0 k_power_by_rows f_power_by_rows fd_power_by_rows ["exponent", "rows", "at"] (sp_power_by_rows K d)) (hk_power_by_rows : k_power_by_rows ≤ k) (b_len : mg "len" = none) (b_sum : mg "sum" = none) : FnOk P w K mg base CX0 (k + 1) f fd ["x", "rows", "at"] (sp_number_by_rows K (d + 1)) := by
  have nd := sc_number_by_rows.nd
  refine D.fn.ok sc_number_by_rows (fun vs H Q E h => spF3.len h) (fun cdv A outer s H vs Q E hr h => ⟨t_number_by_rows K d, ?_, pure_number_by_rows h⟩)
  exact (pss_cons (ps_if (pt_cmpR op_eq (pv 2) (pe_callB call_len_seq (by rfl) b_len PySem.boot_len (pa_cons (pv 1) pa_nil)) (nomark _)) (pss_one (ps_ret pe_int)) pss_nil)
      (pss_one (ps_ret (pe_op op_mod (pe_callB (cr_sum rfl) (by rfl) b_sum (by decide +kernel) (pa_cons (pe_lc (own := [("sign", 3), ("exponent", 4)]) (g := (gTup K 2 (gCons (gName 3) (gCons (gName 4) gNil)))) (tt := tYes) (te := (tOp xMul (tVar 3) (tCall (sp_power_by_rows K d) [] E0 (tCons (tVar 4) (tCons (tVar 1) (tCons (tVar 2) tNil)))))) rfl nd (pi_tup (pv 0)) (blkOk_by (own := [("sign", 3), ("exponent", 4)]) (N := N_number_by_rows) (sc := defScope s_number_by_rows) (by decide +kernel)) (fun _ _ _ _ _ => (pg_tup rfl (pgs_cons (pg_name (i := 3) nd rfl (.inl rfl)) (pgs_cons (pg_name (i := 4) nd rfl (.inl rfl)) pgs_nil)))) (fun _ _ _ _ _ => pts_nil) (fun _ _ _ _ _ => (pe_op op_mul (pv 3) (pe_call G_power_by_rows (hr.mono hk_power_by_rows) rfl D_power_by_rows.m D_power_by_rows.fn.kp D_power_by_rows.b .nil pass0 (pa_cons (pv 4) (pa_cons (pv 1) (pa_cons (pv 2) pa_nil))))))) pa_nil)) (pe_ix ix_tup (pe_ix ix_list (pv 1) (pv 2) (fun _ _ => rfl)) pe_int (fun _ _ => rfl))))))
theorem ok_remainder {f : Addr} {fd : FuncData} {k : Nat} (D : DefAt K mg "remainder" s_remainder ["x", "m"] f fd) {a_NotAllowed : Addr} (C_NotAllowed : ClsAt K mg "NotAllowed" a_NotAllowed) {f_check_modulus : Addr} {fd_check_modulus : FuncData} {k_check_modulus : Nat} (D_check_modulus : DefAt K mg "check_modulus" s_check_modulus ["m"] f_check_modulus fd_check_modulus) (G_check_modulus : FnOk P w K mg base (L2.CX P w) k_check_modulus f_check_modulus fd_check_modulus ["m"] (sp_check_modulus K a_NotAllowed)) (hk_check_modulus : k_check_modulus ≤ k) {f_number_by_rows : Addr} {fd_number_by_rows : FuncData} {k_number_by_rows : Nat} (D_number_by_rows : DefAt K mg "number_by_rows" s_number_by_rows ["x", "rows", "at"] f_number_by_rows fd_number_by_rows) (G_number_by_rows : FnOk P w K mg base CX0 k_number_by_rows f_number_by_rows fd_number_by_rows ["x", "rows", "at"] (sp_number_by_rows K 45)) (hk_number_by_rows : k_number_by_rows ≤ k) {f_power_rows : Addr} {fd_power_rows : FuncData} {k_power_rows : Nat} (D_power_rows : DefAt K mg "power_rows" s_power_rows ["m"] f_power_rows fd_power_rows) (G_power_rows : FnOk P w K mg base CX0 k_power_rows f_power_rows fd_power_rows ["m"] (sp_power_rows K)) (hk_power_rows : k_power_rows ≤ k) : FnOk P w K mg base (L2.CX P w) (k + 1) f fd ["x", "m"] (sp_remainder K a_NotAllowed) := by
  have nd := sc_remainder.nd
  refine D.fn.okX sc_remainder (fun vs H Q E h => spX2.len h) (fun cdv A outer s H vs Q E hr h => ⟨t_remainder K a_NotAllowed E, ?_, pure_remainder h⟩)
  exact (pss_cons (ps_expr (pe_call G_check_modulus (hr.mono hk_check_modulus) rfl D_check_modulus.m D_check_modulus.fn.kp D_check_modulus.b .nil (passes_call (takes_of rfl rfl rfl rfl) (fun _ _ _ _ z => z)) (pa_cons (pv 1) pa_nil)))
      (pss_one (ps_ret (pe_call G_number_by_rows (hr.mono hk_number_by_rows) rfl D_number_by_rows.m D_number_by_rows.fn.kp D_number_by_rows.b .nil pass0 (pa_cons (pv 0) (pa_cons (pe_call G_power_rows (hr.mono hk_power_rows) rfl D_power_rows.m D_power_rows.fn.kp D_power_rows.b .nil pass0 (pa_cons (pv 1) pa_nil)) (pa_cons pe_int pa_nil)))))))
theorem ok_power_remainder {f : Addr} {fd : FuncData} {k : Nat} (D : DefAt K mg "power_remainder" s_power_remainder ["exponent", "m"] f fd) {a_NotAllowed : Addr} (C_NotAllowed : ClsAt K mg "NotAllowed" a_NotAllowed) (X_NotAllowed : ErrC P w K mg base "NotAllowed" a_NotAllowed) (hk3 : 3 ≤ k) {f_check_modulus : Addr} {fd_check_modulus : FuncData} {k_check_modulus : Nat} (D_check_modulus : DefAt K mg "check_modulus" s_check_modulus ["m"] f_check_modulus fd_check_modulus) (G_check_modulus : FnOk P w K mg base (L2.CX P w) k_check_modulus f_check_modulus fd_check_modulus ["m"] (sp_check_modulus K a_NotAllowed)) (hk_check_modulus : k_check_modulus ≤ k) {f_sign_of : Addr} {fd_sign_of : FuncData} {k_sign_of : Nat} (D_sign_of : DefAt K mg "sign_of" s_sign_of ["number"] f_sign_of fd_sign_of) (G_sign_of : FnOk P w K mg base CX0 k_sign_of f_sign_of fd_sign_of ["number"] (sp_sign_of K)) (hk_sign_of : k_sign_of ≤ k) {f_remainder : Addr} {fd_remainder : FuncData} {k_remainder : Nat} (D_remainder : DefAt K mg "remainder" s_remainder ["x", "m"] f_remainder fd_remainder) (G_remainder : FnOk P w K mg base (L2.CX P w) k_remainder f_remainder fd_remainder ["x", "m"] (sp_remainder K a_NotAllowed)) (hk_remainder : k_remainder ≤ k) : FnOk P w K mg base (L2.CX P w) (k + 1) f fd ["exponent", "m"] (sp_power_remainder K a_NotAllowed) := by
  have nd := sc_power_remainder.nd
  refine D.fn.okX sc_power_remainder (fun vs H Q E h => spX2.len h) (fun cdv A outer s H vs Q E hr h => ⟨t_power_remainder K a_NotAllowed E, ?_, pure_power_remainder h⟩)
  exact (pss_cons (ps_expr (pe_call G_check_modulus (hr.mono hk_check_modulus) rfl D_check_modulus.m D_check_modulus.fn.kp D_check_modulus.b .nil (passes_call (takes_of rfl rfl rfl rfl) (fun _ _ _ _ z => z)) (pa_cons (pv 1) pa_nil)))
      (pss_cons (ps_if (pt_cmpR op_lt (pe_call G_sign_of (hr.mono hk_sign_of) rfl D_sign_of.m D_sign_of.fn.kp D_sign_of.b .nil pass0 (pa_cons (pv 0) pa_nil)) pe_int (nomark _)) (pss_one (ps_err rfl (takes_of rfl rfl rfl rfl) rfl X_NotAllowed (hr.mono hk3) (by rfl))) pss_nil)
      (pss_one (ps_ret (pe_call G_remainder (hr.mono hk_remainder) rfl D_remainder.m D_remainder.fn.kp D_remainder.b .nil (passes_call (takes_of rfl rfl rfl rfl) (fun _ _ _ _ z => z)) (pa_cons (pe_tup (pa_cons (pe_tup (pa_cons pe_int (pa_cons (pv 0) pa_nil))) pa_nil)) (pa_cons (pv 1) pa_nil)))))))
theorem ok_powers_of_two {f : Addr} {fd : FuncData} {k : Nat} (D : DefAt K mg "powers_of_two" s_powers_of_two ["m"] f fd) {a_NotAllowed : Addr} (C_NotAllowed : ClsAt K mg "NotAllowed" a_NotAllowed) {f_check_modulus : Addr} {fd_check_modulus : FuncData} {k_check_modulus : Nat} (D_check_modulus : DefAt K mg "check_modulus" s_check_modulus ["m"] f_check_modulus fd_check_modulus) (G_check_modulus : FnOk P w K mg base (L2.CX P w) k_check_modulus f_check_modulus fd_check_modulus ["m"] (sp_check_modulus K a_NotAllowed)) (hk_check_modulus : k_check_modulus ≤ k) {f_power_row : Addr} {fd_power_row : FuncData} {k_power_row : Nat} (D_power_row : DefAt K mg "power_row" s_power_row ["m"] f_power_row fd_power_row) (G_power_row : FnOk P w K mg base CX0 k_power_row f_power_row fd_power_row ["m"] (sp_power_row K)) (hk_power_row : k_power_row ≤ k) (b_len : mg "len" = none) : FnOk P w K mg base (L2.CX P w) (k + 1) f fd ["m"] (sp_powers_of_two K a_NotAllowed) := by
  have nd := sc_powers_of_two.nd
  refine D.fn.okX sc_powers_of_two (fun vs H Q E h => spX1.len h) (fun cdv A outer s H vs Q E hr h => ⟨t_powers_of_two K a_NotAllowed E, ?_, pure_powers_of_two h⟩)
  exact (pss_cons (ps_expr (pe_call G_check_modulus (hr.mono hk_check_modulus) rfl D_check_modulus.m D_check_modulus.fn.kp D_check_modulus.b .nil (passes_call (takes_of rfl rfl rfl rfl) (fun _ _ _ _ z => z)) (pa_cons (pv 0) pa_nil)))
      (pss_cons (ps_asg (pe_call G_power_row (hr.mono hk_power_row) rfl D_power_row.m D_power_row.fn.kp D_power_row.b .nil pass0 (pa_cons (pv 0) pa_nil)) (pg_tup rfl (pgs_cons (pg_name (i := 1) nd rfl (.inl rfl)) (pgs_cons (pg_name (i := 2) nd rfl (.inl rfl)) pgs_nil))))
      (pss_one (ps_ret (pe_tup (pa_cons (pv 2) (pa_cons (pe_op op_sub (pe_callB call_len_seq (by rfl) b_len PySem.boot_len (pa_cons (pv 1) pa_nil)) (pv 2)) pa_nil)))))))
theorem ok_law_cell {f : Addr} {fd : FuncData} {k : Nat} (D : DefAt K mg "_law_cell" s_law_cell ["script", "k"] f fd) (b_len : mg "len" = none) : FnOk P w K mg base CX0 (k + 1) f fd ["script", "k"] (sp_law_cell K) := by
  have nd := sc_law_cell.nd
  refine D.fn.ok sc_law_cell (fun vs H Q E h => spF2.len h) (fun cdv A outer s H vs Q E hr h => ⟨t_law_cell K, ?_, pure_law_cell h⟩)
  exact (pss_cons (ps_if (pt_cmpR op_lt (pv 1) (pe_callB call_len_seq (by rfl) b_len PySem.boot_len (pa_cons (pv 0) pa_nil)) (nomark _)) (pss_one (ps_ret (pe_ix ix_list (pv 0) (pv 1) (fun _ _ => rfl)))) pss_nil)
      (pss_one (ps_ret pe_int)))
theorem ok_law_numbers {f : Addr} {fd : FuncData} {k : Nat} (D : DefAt K mg "_law_numbers" s_law_numbers ["cell", "k", "many"] f fd) (b_range : mg "range" = none) (b_int : mg "int" = none) : FnOk P w K mg base CX0 (k + 1) f fd ["cell", "k", "many"] (sp_law_numbers K) := by
  have nd := sc_law_numbers.nd
  refine D.fn.ok sc_law_numbers (fun vs H Q E h => spF3.len h) (fun cdv A outer s H vs Q E hr h => ⟨t_law_numbers K, ?_, pure_law_numbers h⟩)
  exact (pss_cons (ps_set (i := 3) nd rfl (.inl rfl) (pe_lst pa_nil))
      (pss_cons (ps_if (pt_cmpR op_ge (pv 0) (pe_op op_pow pe_int pe_int) (nomark _)) (pss_cons (ps_set (i := 6) nd rfl (.inl rfl) (pv 0))
      (pss_cons (ps_for PassesOwn.never rfl (pi_range1 rfl b_range (pa_cons (pv 2) pa_nil)) (pg_name (i := 5) nd rfl (.inl rfl)) (pss_cons (ps_expr (pe_bm PySem.F.plainAttrs_list PySem.F.slot_list_append PySem.F.type_list_append mt_append (pv 3) (pa_cons (pe_op op_mod (pe_callTy call_int1 (by rfl) b_int (by decide +kernel) (pa_cons (pv 6) pa_nil)) pe_int) pa_nil)))
      (pss_one (ps_set (i := 6) nd rfl (.inl rfl) (pe_op op_fdiv (pv 6) pe_int)))))
      (pss_one (ps_ret (pv 3))))) pss_nil)
      (pss_cons (ps_set (i := 4) nd rfl (.inl rfl) (pe_op op_mod (pe_callTy call_int1 (by rfl) b_int (by decide +kernel) (pa_cons (pe_op op_add (pe_op op_add (pe_op op_mul (pv 0) pe_int) (pe_op op_mul (pv 1) pe_int)) pe_int) pa_nil)) pe_int))
      (pss_cons (ps_for PassesOwn.never rfl (pi_range1 rfl b_range (pa_cons (pv 2) pa_nil)) (pg_name (i := 5) nd rfl (.inl rfl)) (pss_cons (ps_set (i := 4) nd rfl (.inl rfl) (pe_op op_mod (pe_callTy call_int1 (by rfl) b_int (by decide +kernel) (pa_cons (pe_op op_add (pe_op op_add (pe_op op_mul (pv 4) pe_int) (pe_op op_mul (pv 5) pe_int)) pe_int) pa_nil)) pe_int))
      (pss_cons (ps_set (i := 7) nd rfl (.inl rfl) (pe_op op_mod (pe_callTy call_int1 (by rfl) b_int (by decide +kernel) (pa_cons (pe_op op_add (pe_op op_add (pe_op op_mul (pv 4) (pv 4)) (pe_op op_mul (pv 1) pe_int)) (pv 5)) pa_nil)) pe_int))
      (pss_one (ps_expr (pe_bm PySem.F.plainAttrs_list PySem.F.slot_list_append PySem.F.type_list_append mt_append (pv 3) (pa_cons (pe_op op_mod (pe_callTy call_int1 (by rfl) b_int (by decide +kernel) (pa_cons (pe_op op_fdiv (pv 7) pe_int) pa_nil)) pe_int) pa_nil)))))))
      (pss_one (ps_ret (pv 3)))))))
theorem ok_law_plain {f : Addr} {fd : FuncData} {k : Nat} (D : DefAt K mg "_law_plain" s_law_plain ["numbers", "at", "most"] f fd) (b_range : mg "range" = none) (b_int : mg "int" = none) : FnOk P w K mg base CX0 (k + 1) f fd ["numbers", "at", "most"] (sp_law_plain K) := by
  have nd := sc_law_plain.nd
  refine D.fn.ok sc_law_plain (fun vs H Q E h => spF3.len h) (fun cdv A outer s H vs Q E hr h => ⟨t_law_plain K, ?_, pure_law_plain h⟩)
  exact (pss_cons (ps_set (i := 3) nd rfl (.inl rfl) pe_int)
      (pss_cons (ps_for PassesOwn.never rfl (pi_range1 rfl b_range (pa_cons (pe_op op_mod (pe_callTy call_int1 (by rfl) b_int (by decide +kernel) (pa_cons (pe_ix ix_list (pv 0) (pv 1) (fun _ _ => rfl)) pa_nil)) pe_int) pa_nil)) (pg_name (i := 4) nd rfl (.inl rfl)) (pss_cons (ps_set (i := 5) nd rfl (.inl rfl) (pe_ix ix_list (pe_lst (pa_cons (pe_op op_mod (pe_callTy call_int1 (by rfl) b_int (by decide +kernel) (pa_cons (pe_ix ix_list (pv 0) (pe_op op_add (pe_op op_add (pv 1) pe_int) (pv 4)) (fun _ _ => rfl)) pa_nil)) pe_int) (pa_cons (pe_op op_mod (pe_op op_mul (pe_callTy call_int1 (by rfl) b_int (by decide +kernel) (pa_cons (pe_ix ix_list (pv 0) (pe_op op_add (pe_op op_add (pv 1) pe_int) (pv 4)) (fun _ _ => rfl)) pa_nil)) pe_int) (pv 2)) pa_nil))) (pe_op op_mod (pe_op op_fdiv (pe_callTy call_int1 (by rfl) b_int (by decide +kernel) (pa_cons (pe_ix ix_list (pv 0) (pe_op op_add (pv 1) pe_int) (fun _ _ => rfl)) pa_nil)) (pe_op op_add pe_int (pv 4))) pe_int) (fun _ _ => rfl)))
      (pss_one (ps_set (i := 3) nd rfl (.inl rfl) (pe_op op_add (pv 3) (pe_op op_mul (pe_op op_sub pe_int (pe_op op_mul pe_int (pe_op op_mod (pe_op op_fdiv (pe_callTy call_int1 (by rfl) b_int (by decide +kernel) (pa_cons (pe_ix ix_list (pv 0) (pe_op op_add (pv 1) pe_int) (fun _ _ => rfl)) pa_nil)) (pe_op op_add pe_int (pv 4))) pe_int))) (pe_op op_shl pe_int (pv 5))))))))
      (pss_one (ps_ret (pe_op op_sub (pe_op op_add (pv 3) (pe_op op_mod (pe_callTy call_int1 (by rfl) b_int (by decide +kernel) (pa_cons (pe_ix ix_list (pv 0) (pe_op op_add (pv 1) pe_int) (fun _ _ => rfl)) pa_nil)) pe_int)) pe_int)))))
theorem ok_law_cycle {f : Addr} {fd : FuncData} {k : Nat} (D : DefAt K mg "_law_cycle" s_law_cycle ["m"] f fd) (b_range : mg "range" = none) : FnOk P w K mg base CX0 (k + 1) f fd ["m"] (sp_law_cycle K) := by
  have nd := sc_law_cycle.nd
  refine D.fn.ok sc_law_cycle (fun vs H Q E h => spF1.len h) (fun cdv A outer s H vs Q E hr h => ⟨t_law_cycle K, ?_, pure_law_cycle h⟩)
  exact (pss_cons (ps_set (i := 1) nd rfl (.inl rfl) pe_dnewK)
      (pss_cons (ps_set (i := 2) nd rfl (.inl rfl) (pe_op op_mod pe_int (pv 0)))
      (pss_cons (ps_for PassesOwn.never rfl (pi_range1 rfl b_range (pa_cons pe_int pa_nil)) (pg_name (i := 3) nd rfl (.inl rfl)) (pss_cons (ps_if (pt_cmp (pc_din (hu_of hr) (pv 2) (pv 1))) (pss_one (ps_ret (pe_tup (pa_cons (pe_dget (hu_of hr) (pv 1) (pv 2) (fun _ _ => rfl)) (pa_cons (pe_op op_sub (pv 3) (pe_dget (hu_of hr) (pv 1) (pv 2) (fun _ _ => rfl))) pa_nil))))) pss_nil)
      (pss_cons (ps_dput (hu_of hr) (pv 1) (pv 2) (pv 3) rfl)
      (pss_one (ps_set (i := 2) nd rfl (.inl rfl) (pe_op op_mod (pe_op op_mul (pv 2) pe_int) (pv 0)))))))
      (pss_one (ps_ret pe_non)))))
theorem ok_law_refused {f : Addr} {fd : FuncData} {k : Nat} (D : DefAt K mg "_law_refused" s_law_refused ["door", "m"] f fd) {a_Missing : Addr} (C_Missing : ClsAt K mg "Missing" a_Missing) {a_NotAllowed : Addr} (C_NotAllowed : ClsAt K mg "NotAllowed" a_NotAllowed) {a_ReckonError : Addr} (C_ReckonError : ClsAt K mg "ReckonError" a_ReckonError) {a_TooLarge : Addr} (C_TooLarge : ClsAt K mg "TooLarge" a_TooLarge) {f_remainder : Addr} {fd_remainder : FuncData} {k_remainder : Nat} (D_remainder : DefAt K mg "remainder" s_remainder ["x", "m"] f_remainder fd_remainder) (G_remainder : FnOk P w K mg base (L2.CX P w) k_remainder f_remainder fd_remainder ["x", "m"] (sp_remainder K a_NotAllowed)) (hk_remainder : k_remainder ≤ k) {f_of_int : Addr} {fd_of_int : FuncData} {k_of_int : Nat} (D_of_int : DefAt K mg "of_int" s_of_int ["value"] f_of_int fd_of_int) (G_of_int : FnOk P w K mg base (L2.CX P w) k_of_int f_of_int fd_of_int ["value"] (sp_of_int K a_NotAllowed a_TooLarge)) (hk_of_int : k_of_int ≤ k) {f_power_remainder : Addr} {fd_power_remainder : FuncData} {k_power_remainder : Nat} (D_power_remainder : DefAt K mg "power_remainder" s_power_remainder ["exponent", "m"] f_power_remainder fd_power_remainder) (G_power_remainder : FnOk P w K mg base (L2.CX P w) k_power_remainder f_power_remainder fd_power_remainder ["exponent", "m"] (sp_power_remainder K a_NotAllowed)) (hk_power_remainder : k_power_remainder ≤ k) {f_powers_of_two : Addr} {fd_powers_of_two : FuncData} {k_powers_of_two : Nat} (D_powers_of_two : DefAt K mg "powers_of_two" s_powers_of_two ["m"] f_powers_of_two fd_powers_of_two) (G_powers_of_two : FnOk P w K mg base (L2.CX P w) k_powers_of_two f_powers_of_two fd_powers_of_two ["m"] (sp_powers_of_two K a_NotAllowed)) (hk_powers_of_two : k_powers_of_two ≤ k) (b_isinstance : mg "isinstance" = none) (hex : PySem.W.exmOne K (.ref a_NotAllowed) (.ref a_NotAllowed) = some true) (hR : PySem.W.kitOne K (.ref a_NotAllowed) (.ref a_ReckonError) = some true) (hA : PySem.W.kitAny K (.ref a_NotAllowed) [.ref a_Missing, .ref a_TooLarge] = some false) : FnOk P w K mg base CX0 (k + 1) f fd ["door", "m"] (sp_law_refused K) := by
  have nd := sc_law_refused.nd
  refine D.fn.ok sc_law_refused (fun vs H Q E h => spF2.len h) (fun cdv A outer s H vs Q E hr h => ⟨t_law_refused K a_Missing a_NotAllowed a_ReckonError a_TooLarge, ?_, pure_law_refused hex hR hA h⟩)
  exact (pss_cons (ps_try_as (i := 2) rfl rfl nd rfl rfl ⟨rfl, by decide, .inl C_NotAllowed.m⟩ takes0 (tb := fun W => (tIfS (tTest (tOp rEq (tVar 0) (tC (.int 0)))) (tDrop (tCallS (sp_remainder K a_NotAllowed) (WE W) (tCons (tCallS (sp_of_int K a_NotAllowed a_TooLarge) (WE W) (tCons (tC (.int 5)) tNil)) (tCons (tVar 1) tNil)))) (tIfS (tTest (tOp rEq (tVar 0) (tC (.int 1)))) (tDrop (tCallS (sp_power_remainder K a_NotAllowed) (WE W) (tCons (tCallS (sp_of_int K a_NotAllowed a_TooLarge) (WE W) (tCons (tC (.int 5)) tNil)) (tCons (tVar 1) tNil)))) (tIfS (tTest (tOp rEq (tVar 0) (tC (.int 2)))) (tDrop (tCallS (sp_powers_of_two K a_NotAllowed) (WE W) (tCons (tVar 1) tNil))) (tDrop (tCallS (sp_power_remainder K a_NotAllowed) (WE W) (tCons (tCallS (sp_of_int K a_NotAllowed a_TooLarge) (WE W) (tCons (tOp xSub (tUn xNeg (tC (.int 1))) (tVar 1)) tNil)) (tCons (tC (.int 7)) tNil)))))))) (fun W pn xe tk hpo => (pss_one (ps_if (pt_cmpR op_eq (pv 0) pe_int (nomark _)) (pss_one (ps_expr (pe_callS G_remainder (hr.mono hk_remainder) rfl D_remainder.m D_remainder.fn.kp D_remainder.b (fun σ => passAt tk σ) (pa_cons (pe_callS G_of_int (hr.mono hk_of_int) rfl D_of_int.m D_of_int.fn.kp D_of_int.b (fun σ => passAt tk σ) (pa_cons pe_int pa_nil)) (pa_cons (pv 1) pa_nil))))) (pss_one (ps_if (pt_cmpR op_eq (pv 0) pe_int (nomark _)) (pss_one (ps_expr (pe_callS G_power_remainder (hr.mono hk_power_remainder) rfl D_power_remainder.m D_power_remainder.fn.kp D_power_remainder.b (fun σ => passAt tk σ) (pa_cons (pe_callS G_of_int (hr.mono hk_of_int) rfl D_of_int.m D_of_int.fn.kp D_of_int.b (fun σ => passAt tk σ) (pa_cons pe_int pa_nil)) (pa_cons (pv 1) pa_nil))))) (pss_one (ps_if (pt_cmpR op_eq (pv 0) pe_int (nomark _)) (pss_one (ps_expr (pe_callS G_powers_of_two (hr.mono hk_powers_of_two) rfl D_powers_of_two.m D_powers_of_two.fn.kp D_powers_of_two.b (fun σ => passAt tk σ) (pa_cons (pv 1) pa_nil)))) (pss_one (ps_expr (pe_callS G_power_remainder (hr.mono hk_power_remainder) rfl D_power_remainder.m D_power_remainder.fn.kp D_power_remainder.b (fun σ => passAt tk σ) (pa_cons (pe_callS G_of_int (hr.mono hk_of_int) rfl D_of_int.m D_of_int.fn.kp D_of_int.b (fun σ => passAt tk σ) (pa_cons (pe_op op_sub (pe_un un_neg pe_int) (pv 1)) pa_nil)) (pa_cons pe_int pa_nil)))))))))))) (ts := fun a cls d => (tRet (tAndV (tCB (rIsEc K a_NotAllowed a cls d) (tCons (tVar 2) (tCons (tC (.ref a_ReckonError)) tNil))) (tNotV (tCB (rIsETc K a_NotAllowed a cls d) (tCons (tVar 2) (tCons (tTup (tCons (tC (.ref a_Missing)) (tCons (tC (.ref a_TooLarge)) tNil))) tNil))))))) (fun a oe cls d pn hz hf => (pss_one (ps_ret (pe_and (pe_callB (call_isEc C_NotAllowed.e hz hf) (by rfl) b_isinstance (by decide +kernel) (pa_cons (pv 2) (pa_cons (pe_glob rfl C_ReckonError.m rfl) pa_nil))) (pe_one (pe_not (pe_callB (call_isETc C_NotAllowed.e hz hf) (by rfl) b_isinstance (by decide +kernel) (pa_cons (pv 2) (pa_cons (pe_tup (pa_cons (pe_glob rfl C_Missing.m rfl) (pa_cons (pe_glob rfl C_TooLarge.m rfl) pa_nil))) pa_nil))))))))))
      (pss_one (ps_ret pe_bl)))
theorem ok_law_agrees {f : Addr} {fd : FuncData} {k : Nat} (D : DefAt K mg "_law_agrees" s_law_agrees ["value", "exponent", "m"] f fd) {a_NotAllowed : Addr} (C_NotAllowed : ClsAt K mg "NotAllowed" a_NotAllowed) {a_TooLarge : Addr} (C_TooLarge : ClsAt K mg "TooLarge" a_TooLarge) {f_of_int : Addr} {fd_of_int : FuncData} {k_of_int : Nat} (D_of_int : DefAt K mg "of_int" s_of_int ["value"] f_of_int fd_of_int) (G_of_int : FnOk P w K mg base (L2.CX P w) k_of_int f_of_int fd_of_int ["value"] (sp_of_int K a_NotAllowed a_TooLarge)) (hk_of_int : k_of_int ≤ k) {f_remainder : Addr} {fd_remainder : FuncData} {k_remainder : Nat} (D_remainder : DefAt K mg "remainder" s_remainder ["x", "m"] f_remainder fd_remainder) (G_remainder : FnOk P w K mg base (L2.CX P w) k_remainder f_remainder fd_remainder ["x", "m"] (sp_remainder K a_NotAllowed)) (hk_remainder : k_remainder ≤ k) {f_power_remainder : Addr} {fd_power_remainder : FuncData} {k_power_remainder : Nat} (D_power_remainder : DefAt K mg "power_remainder" s_power_remainder ["exponent", "m"] f_power_remainder fd_power_remainder) (G_power_remainder : FnOk P w K mg base (L2.CX P w) k_power_remainder f_power_remainder fd_power_remainder ["exponent", "m"] (sp_power_remainder K a_NotAllowed)) (hk_power_remainder : k_power_remainder ≤ k) (b_int : mg "int" = none) (b_isinstance : mg "isinstance" = none) (b_bool : mg "bool" = none) : FnOk P w K mg base CX0 (k + 1) f fd ["value", "exponent", "m"] (sp_law_agrees K a_NotAllowed a_TooLarge) := by
  have nd := sc_law_agrees.nd
  refine D.fn.ok sc_law_agrees (fun vs H Q E h => spF3.len h) (fun cdv A outer s H vs Q E hr h => ⟨t_law_agrees K a_NotAllowed a_TooLarge, ?_, pure_law_agrees h⟩)
  exact (pss_cons (ps_set (i := 3) nd rfl (.inl rfl) (pe_call G_of_int (hr.mono hk_of_int) rfl D_of_int.m D_of_int.fn.kp D_of_int.b .nil passL (pa_cons (pv 0) pa_nil)))
      (pss_cons (ps_if (PW.pt (pw_or (pt_cmpR op_ne (pe_call G_remainder (hr.mono hk_remainder) rfl D_remainder.m D_remainder.fn.kp D_remainder.b .nil passL (pa_cons (pv 3) (pa_cons (pv 2) pa_nil))) (pe_op op_mod (pe_callTy call_int1 (by rfl) b_int (by decide +kernel) (pa_cons (pv 0) pa_nil)) (pv 2)) (nomark _)) (pw_or1 (pt_val (pe_callB call_isi (by rfl) b_isinstance (by decide +kernel) (pa_cons (pe_call G_remainder (hr.mono hk_remainder) rfl D_remainder.m D_remainder.fn.kp D_remainder.b .nil passL (pa_cons (pv 3) (pa_cons (pv 2) pa_nil))) (pa_cons (pe_bltn (by rfl) b_bool (by decide +kernel) rfl) pa_nil))))))) (pss_one (ps_ret pe_bl)) pss_nil)
      (pss_one (ps_ret (pe_cmpR op_eq (pe_call G_power_remainder (hr.mono hk_power_remainder) rfl D_power_remainder.m D_power_remainder.fn.kp D_power_remainder.b .nil passL (pa_cons (pe_call G_of_int (hr.mono hk_of_int) rfl D_of_int.m D_of_int.fn.kp D_of_int.b .nil passL (pa_cons (pv 1) pa_nil)) (pa_cons (pv 2) pa_nil))) (pe_op op_mod (pe_callTy call_int1 (by rfl) b_int (by decide +kernel) (pa_cons (pe_op op_shl pe_int (pv 1)) pa_nil)) (pv 2)) (nomark _))))))
theorem ok_law {f : Addr} {fd : FuncData} {k : Nat} (D : DefAt K mg "law" s_law ["script"] f fd) {a_NotAllowed : Addr} (C_NotAllowed : ClsAt K mg "NotAllowed" a_NotAllowed) {a_TooLarge : Addr} (C_TooLarge : ClsAt K mg "TooLarge" a_TooLarge) {f__law_numbers : Addr} {fd__law_numbers : FuncData} {k__law_numbers : Nat} (D__law_numbers : DefAt K mg "_law_numbers" s_law_numbers ["cell", "k", "many"] f__law_numbers fd__law_numbers) (G__law_numbers : FnOk P w K mg base CX0 k__law_numbers f__law_numbers fd__law_numbers ["cell", "k", "many"] (sp_law_numbers K)) (hk__law_numbers : k__law_numbers ≤ k) {f__law_cell : Addr} {fd__law_cell : FuncData} {k__law_cell : Nat} (D__law_cell : DefAt K mg "_law_cell" s_law_cell ["script", "k"] f__law_cell fd__law_cell) (G__law_cell : FnOk P w K mg base CX0 k__law_cell f__law_cell fd__law_cell ["script", "k"] (sp_law_cell K)) (hk__law_cell : k__law_cell ≤ k) {f__law_plain : Addr} {fd__law_plain : FuncData} {k__law_plain : Nat} (D__law_plain : DefAt K mg "_law_plain" s_law_plain ["numbers", "at", "most"] f__law_plain fd__law_plain) (G__law_plain : FnOk P w K mg base CX0 k__law_plain f__law_plain fd__law_plain ["numbers", "at", "most"] (sp_law_plain K)) (hk__law_plain : k__law_plain ≤ k) {f__law_agrees : Addr} {fd__law_agrees : FuncData} {k__law_agrees : Nat} (D__law_agrees : DefAt K mg "_law_agrees" s_law_agrees ["value", "exponent", "m"] f__law_agrees fd__law_agrees) (G__law_agrees : FnOk P w K mg base CX0 k__law_agrees f__law_agrees fd__law_agrees ["value", "exponent", "m"] (sp_law_agrees K a_NotAllowed a_TooLarge)) (hk__law_agrees : k__law_agrees ≤ k) {f_powers_of_two : Addr} {fd_powers_of_two : FuncData} {k_powers_of_two : Nat} (D_powers_of_two : DefAt K mg "powers_of_two" s_powers_of_two ["m"] f_powers_of_two fd_powers_of_two) (G_powers_of_two : FnOk P w K mg base (L2.CX P w) k_powers_of_two f_powers_of_two fd_powers_of_two ["m"] (sp_powers_of_two K a_NotAllowed)) (hk_powers_of_two : k_powers_of_two ≤ k) {f__law_cycle : Addr} {fd__law_cycle : FuncData} {k__law_cycle : Nat} (D__law_cycle : DefAt K mg "_law_cycle" s_law_cycle ["m"] f__law_cycle fd__law_cycle) (G__law_cycle : FnOk P w K mg base CX0 k__law_cycle f__law_cycle fd__law_cycle ["m"] (sp_law_cycle K)) (hk__law_cycle : k__law_cycle ≤ k) {f__law_refused : Addr} {fd__law_refused : FuncData} {k__law_refused : Nat} (D__law_refused : DefAt K mg "_law_refused" s_law_refused ["door", "m"] f__law_refused fd__law_refused) (G__law_refused : FnOk P w K mg base CX0 k__law_refused f__law_refused fd__law_refused ["door", "m"] (sp_law_refused K)) (hk__law_refused : k__law_refused ≤ k) (b_range : mg "range" = none) (b_max : mg "max" = none) (b_min : mg "min" = none) (b_len : mg "len" = none) (b_int : mg "int" = none) {t_MAX_MODULUS : Tok} (m_MAX_MODULUS : mg "MAX_MODULUS" = some (.int 10000 t_MAX_MODULUS)) : FnOk P w K mg base CX0 (k + 1) f fd ["script"] (sp_law K) := by
  have nd := sc_law.nd
  refine D.fn.ok sc_law (fun vs H Q E h => spF1.len h) (fun cdv A outer s H vs Q E hr h => ⟨t_law K a_NotAllowed a_TooLarge, ?_, pure_law h⟩)
  exact (pss_cons (ps_for PassesOwn.never rfl (pi_range1 rfl b_range (pa_cons (pe_callB (call_max2 rfl) (by rfl) b_max (by decide +kernel) (pa_cons pe_int (pa_cons (pe_callB (call_min2 rfl) (by rfl) b_min (by decide +kernel) (pa_cons (pe_callB call_len_seq (by rfl) b_len PySem.boot_len (pa_cons (pv 0) pa_nil)) (pa_cons pe_int pa_nil))) pa_nil))) pa_nil)) (pg_name (i := 1) nd rfl (.inl rfl)) (pss_cons (ps_set (i := 3) nd rfl (.inl rfl) (pe_call G__law_numbers (hr.mono hk__law_numbers) rfl D__law_numbers.m D__law_numbers.fn.kp D__law_numbers.b .nil pass0 (pa_cons (pe_call G__law_cell (hr.mono hk__law_cell) rfl D__law_cell.m D__law_cell.fn.kp D__law_cell.b .nil pass0 (pa_cons (pv 0) (pa_cons (pv 1) pa_nil))) (pa_cons (pv 1) (pa_cons pe_int pa_nil)))))
      (pss_cons (ps_set (i := 4) nd rfl (.inl rfl) (pe_call G__law_plain (hr.mono hk__law_plain) rfl D__law_plain.m D__law_plain.fn.kp D__law_plain.b .nil pass0 (pa_cons (pv 3) (pa_cons pe_int (pa_cons pe_int pa_nil)))))
      (pss_cons (ps_set (i := 5) nd rfl (.inl rfl) (pe_callTy call_int1 (by rfl) b_int (by decide +kernel) (pa_cons (pe_ix ix_list (pv 3) pe_int (fun _ _ => rfl)) pa_nil)))
      (pss_cons (ps_set (i := 6) nd rfl (.inl rfl) (pe_ix ix_list (pe_lst (pa_cons (pe_op op_add pe_int (pe_op op_mod (pe_callTy call_int1 (by rfl) b_int (by decide +kernel) (pa_cons (pv 5) pa_nil)) pe_int)) (pa_cons (pe_op op_add pe_int (pe_op op_mod (pe_op op_mul (pv 5) pe_int) pe_int)) (pa_cons (pe_op op_shl pe_int (pe_op op_mod (pe_callTy call_int1 (by rfl) b_int (by decide +kernel) (pa_cons (pv 5) pa_nil)) pe_int)) (pa_cons (pe_op op_add pe_int (pv 5)) (pa_cons (pe_op op_sub pe_int (pe_op op_mod (pe_callTy call_int1 (by rfl) b_int (by decide +kernel) (pa_cons (pv 5) pa_nil)) pe_int)) pa_nil)))))) (pe_op op_mod (pe_callTy call_int1 (by rfl) b_int (by decide +kernel) (pa_cons (pe_ix ix_list (pv 3) pe_int (fun _ _ => rfl)) pa_nil)) pe_int) (fun _ _ => rfl)))
      (pss_cons (ps_set (i := 7) nd rfl (.inl rfl) (pe_ix ix_list (pe_lst (pa_cons (pe_op op_mod (pe_callTy call_int1 (by rfl) b_int (by decide +kernel) (pa_cons (pe_ix ix_list (pv 3) pe_int (fun _ _ => rfl)) pa_nil)) pe_int) (pa_cons (pe_op op_mul (pe_callTy call_int1 (by rfl) b_int (by decide +kernel) (pa_cons (pe_ix ix_list (pv 3) pe_int (fun _ _ => rfl)) pa_nil)) pe_int) pa_nil))) (pe_op op_mod (pe_callTy call_int1 (by rfl) b_int (by decide +kernel) (pa_cons (pe_ix ix_list (pv 3) pe_int (fun _ _ => rfl)) pa_nil)) pe_int) (fun _ _ => rfl)))
      (pss_cons (ps_if (pt_not (pt_val (pe_call G__law_agrees (hr.mono hk__law_agrees) rfl D__law_agrees.m D__law_agrees.fn.kp D__law_agrees.b .nil pass0 (pa_cons (pv 4) (pa_cons (pv 7) (pa_cons (pv 6) pa_nil)))))) (pss_one (ps_ret pe_bl)) pss_nil)
      (pss_one (ps_if (pt_cmpR (op_neD (hu64 hr)) (pe_call G_powers_of_two (hr.mono hk_powers_of_two) rfl D_powers_of_two.m D_powers_of_two.fn.kp D_powers_of_two.b .nil passL (pa_cons (pv 6) pa_nil)) (pe_call G__law_cycle (hr.mono hk__law_cycle) rfl D__law_cycle.m D__law_cycle.fn.kp D__law_cycle.b .nil pass0 (pa_cons (pv 6) pa_nil)) (nomark _)) (pss_one (ps_ret pe_bl)) pss_nil)))))))))
      (pss_cons (ps_for PassesOwn.never rfl (pi_range1 rfl b_range (pa_cons pe_int pa_nil)) (pg_name (i := 2) nd rfl (.inl rfl)) (pss_one (ps_if (pt_not (PW.pt (pw_and (pt_val (pe_call G__law_refused (hr.mono hk__law_refused) rfl D__law_refused.m D__law_refused.fn.kp D__law_refused.b .nil pass0 (pa_cons (pv 2) (pa_cons pe_int pa_nil)))) (pw_and (pt_val (pe_call G__law_refused (hr.mono hk__law_refused) rfl D__law_refused.m D__law_refused.fn.kp D__law_refused.b .nil pass0 (pa_cons (pv 2) (pa_cons (pe_un un_neg pe_int) pa_nil)))) (pw_and1 (pt_val (pe_call G__law_refused (hr.mono hk__law_refused) rfl D__law_refused.m D__law_refused.fn.kp D__law_refused.b .nil pass0 (pa_cons (pv 2) (pa_cons pe_int pa_nil))))))))) (pss_one (ps_ret pe_bl)) pss_nil)))
      (pss_one (ps_ret (pe_and (pe_call G__law_refused (hr.mono hk__law_refused) rfl D__law_refused.m D__law_refused.fn.kp D__law_refused.b .nil pass0 (pa_cons pe_int (pa_cons pe_int pa_nil))) (pe_one (pe_cmpR op_eq (pe_glob rfl m_MAX_MODULUS ⟨_, rfl⟩) pe_int (nomark _))))))))
theorem all_by_rows {f f_p f_v : Addr} {fd fd_p fd_v : FuncData} (D : DefAt K mg "number_by_rows" s_number_by_rows ["x", "rows", "at"] f fd) (D_p : DefAt K mg "power_by_rows" s_power_by_rows ["exponent", "rows", "at"] f_p fd_p) (D_v : DefAt K mg "value_within" s_value_within ["number", "bits"] f_v fd_v) (G_v : FnOk P w K mg base CX0 45 f_v fd_v ["number", "bits"] (sp_value_within K 45)) (b_len : mg "len" = none) (b_sum : mg "sum" = none) :
    ∀ d, FnOk P w K mg base CX0 (2 * d + 46) f fd ["x", "rows", "at"] (sp_number_by_rows K d) ∧ FnOk P w K mg base CX0 (2 * d + 47) f_p fd_p ["exponent", "rows", "at"] (sp_power_by_rows K d)
  | 0 => by
    have N : FnOk P w K mg base CX0 46 f fd ["x", "rows", "at"] (sp_number_by_rows K 0) := fn_vac fun vs H Q E ⟨x, y, z, R, _, ⟨t, rs, i, _, _, _, _, h, _⟩, _⟩ => absurd h (Nat.not_lt_zero _)
    exact ⟨N, ok_power_by_rows (k := 46) D_p D_v G_v (by omega) D N (by omega) b_len⟩
  | d + 1 => by
    have ih := all_by_rows D D_p D_v G_v b_len b_sum d
    have N : FnOk P w K mg base CX0 (2 * d + 48) f fd ["x", "rows", "at"] (sp_number_by_rows K (d + 1)) := ok_number_by_rows (k := 2 * d + 47) D D_p ih.2 (by omega) b_len b_sum
    exact ⟨N, ok_power_by_rows (k := 2 * d + 48) D_p D_v G_v (by omega) D N (by omega) b_len⟩
theorem all_bare_number {f : Addr} {fd : FuncData} (D : DefAt K mg "bare_number" s_bare_number ["value"] f fd) {f_signed_places : Addr} {fd_signed_places : FuncData} (D_signed_places : DefAt K mg "signed_places" s_signed_places ["value"] f_signed_places fd_signed_places) (G_signed_places : FnOk P w K mg base CX0 1 f_signed_places fd_signed_places ["value"] (sp_signed_places K)) (b_tuple : mg "tuple" = none) {t_FIRST_END : Tok} (m_FIRST_END : mg "FIRST_END" = some (.int 8 t_FIRST_END)) {a_FIRST_NUMBERS : Addr} (m_FIRST_NUMBERS : mg "FIRST_NUMBERS" = some (.ref a_FIRST_NUMBERS)) (d_FIRST_NUMBERS : FirstAt K a_FIRST_NUMBERS) : ∀ d, FnOk P w K mg base CX0 (d + 1) f fd ["value"] (sp_bare_number K d)
  | 0 => fn_vac fun vs H Q E h => vac_bare_number h
  | d + 1 => ok_bare_number (k := d + 1) D D_signed_places G_signed_places (by omega) b_tuple m_FIRST_END m_FIRST_NUMBERS d_FIRST_NUMBERS (all_bare_number D D_signed_places G_signed_places b_tuple m_FIRST_END m_FIRST_NUMBERS d_FIRST_NUMBERS d)
theorem all_value_within {f : Addr} {fd : FuncData} (D : DefAt K mg "value_within" s_value_within ["number", "bits"] f fd) {t_FIRST_END : Tok} (m_FIRST_END : mg "FIRST_END" = some (.int 8 t_FIRST_END)) {a_FIRST_NUMBERS : Addr} (m_FIRST_NUMBERS : mg "FIRST_NUMBERS" = some (.ref a_FIRST_NUMBERS)) (d_FIRST_NUMBERS : FirstAt K a_FIRST_NUMBERS) : ∀ d, FnOk P w K mg base CX0 (d + 0) f fd ["number", "bits"] (sp_value_within K d)
  | 0 => fn_vac fun vs H Q E h => vac_value_within h
  | d + 1 => ok_value_within (k := d + 0) D   m_FIRST_END m_FIRST_NUMBERS d_FIRST_NUMBERS (all_value_within D   m_FIRST_END m_FIRST_NUMBERS d_FIRST_NUMBERS d)
end
theorem all_mk {l : PySem.W.OpenLaw} {w : World} {K : PySem.W.Frag} {h : Heap} {mg : Str → Option Value} {fa : Addr} {f_signed_places : Addr} {od_signed_places an_signed_places : Option Addr} {sl_signed_places : Array (Option Value)} {oc_signed_places kV_signed_places dc_signed_places pm_signed_places cd_signed_places ct_signed_places : Value} {f_bare_number : Addr} {od_bare_number an_bare_number : Option Addr} {sl_bare_number : Array (Option Value)} {oc_bare_number kV_bare_number dc_bare_number pm_bare_number cd_bare_number ct_bare_number : Value} {f_value_within : Addr} {od_value_within an_value_within : Option Addr} {sl_value_within : Array (Option Value)} {oc_value_within kV_value_within dc_value_within pm_value_within cd_value_within ct_value_within : Value} {f_levels : Addr} {od_levels an_levels : Option Addr} {sl_levels : Array (Option Value)} {oc_levels kV_levels dc_levels pm_levels cd_levels ct_levels : Value} {f_is_allowed : Addr} {od_is_allowed an_is_allowed : Option Addr} {sl_is_allowed : Array (Option Value)} {oc_is_allowed kV_is_allowed dc_is_allowed pm_is_allowed cd_is_allowed ct_is_allowed : Value} {f_allowed : Addr} {od_allowed an_allowed : Option Addr} {sl_allowed : Array (Option Value)} {oc_allowed kV_allowed dc_allowed pm_allowed cd_allowed ct_allowed : Value} {f_sign_of : Addr} {od_sign_of an_sign_of : Option Addr} {sl_sign_of : Array (Option Value)} {oc_sign_of kV_sign_of dc_sign_of pm_sign_of cd_sign_of ct_sign_of : Value} {f_of_int : Addr} {od_of_int an_of_int : Option Addr} {sl_of_int : Array (Option Value)} {oc_of_int kV_of_int dc_of_int pm_of_int cd_of_int ct_of_int : Value} {f_check_modulus : Addr} {od_check_modulus an_check_modulus : Option Addr} {sl_check_modulus : Array (Option Value)} {oc_check_modulus kV_check_modulus dc_check_modulus pm_check_modulus cd_check_modulus ct_check_modulus : Value} {f_power_row : Addr} {od_power_row an_power_row : Option Addr} {sl_power_row : Array (Option Value)} {oc_power_row kV_power_row dc_power_row pm_power_row cd_power_row ct_power_row : Value} {f_power_rows : Addr} {od_power_rows an_power_rows : Option Addr} {sl_power_rows : Array (Option Value)} {oc_power_rows kV_power_rows dc_power_rows pm_power_rows cd_power_rows ct_power_rows : Value} {f_power_by_rows : Addr} {od_power_by_rows an_power_by_rows : Option Addr} {sl_power_by_rows : Array (Option Value)} {oc_power_by_rows kV_power_by_rows dc_power_by_rows pm_power_by_rows cd_power_by_rows ct_power_by_rows : Value} {f_number_by_rows : Addr} {od_number_by_rows an_number_by_rows : Option Addr} {sl_number_by_rows : Array (Option Value)} {oc_number_by_rows kV_number_by_rows dc_number_by_rows pm_number_by_rows cd_number_by_rows ct_number_by_rows : Value} {f_remainder : Addr} {od_remainder an_remainder : Option Addr} {sl_remainder : Array (Option Value)} {oc_remainder kV_remainder dc_remainder pm_remainder cd_remainder ct_remainder : Value} {f_power_remainder : Addr} {od_power_remainder an_power_remainder : Option Addr} {sl_power_remainder : Array (Option Value)} {oc_power_remainder kV_power_remainder dc_power_remainder pm_power_remainder cd_power_remainder ct_power_remainder : Value} {f_powers_of_two : Addr} {od_powers_of_two an_powers_of_two : Option Addr} {sl_powers_of_two : Array (Option Value)} {oc_powers_of_two kV_powers_of_two dc_powers_of_two pm_powers_of_two cd_powers_of_two ct_powers_of_two : Value} {f_law_cell : Addr} {od_law_cell an_law_cell : Option Addr} {sl_law_cell : Array (Option Value)} {oc_law_cell kV_law_cell dc_law_cell pm_law_cell cd_law_cell ct_law_cell : Value} {f_law_numbers : Addr} {od_law_numbers an_law_numbers : Option Addr} {sl_law_numbers : Array (Option Value)} {oc_law_numbers kV_law_numbers dc_law_numbers pm_law_numbers cd_law_numbers ct_law_numbers : Value} {f_law_plain : Addr} {od_law_plain an_law_plain : Option Addr} {sl_law_plain : Array (Option Value)} {oc_law_plain kV_law_plain dc_law_plain pm_law_plain cd_law_plain ct_law_plain : Value} {f_law_cycle : Addr} {od_law_cycle an_law_cycle : Option Addr} {sl_law_cycle : Array (Option Value)} {oc_law_cycle kV_law_cycle dc_law_cycle pm_law_cycle cd_law_cycle ct_law_cycle : Value} {f_law_refused : Addr} {od_law_refused an_law_refused : Option Addr} {sl_law_refused : Array (Option Value)} {oc_law_refused kV_law_refused dc_law_refused pm_law_refused cd_law_refused ct_law_refused : Value} {f_law_agrees : Addr} {od_law_agrees an_law_agrees : Option Addr} {sl_law_agrees : Array (Option Value)} {oc_law_agrees kV_law_agrees dc_law_agrees pm_law_agrees cd_law_agrees ct_law_agrees : Value} {f_law : Addr} {od_law an_law : Option Addr} {sl_law : Array (Option Value)} {oc_law kV_law dc_law pm_law cd_law ct_law : Value} {a_Missing : Addr} {a_NotAllowed : Addr} {a_ReckonError : Addr} {a_TooLarge : Addr} {f_c_ReckonError T_c_ReckonError : Addr} {od_c_ReckonError od2_c_ReckonError an_c_ReckonError : Option Addr} {sl_c_ReckonError sl2_c_ReckonError : Array (Option Value)} {oc_c_ReckonError oc2_c_ReckonError kV_c_ReckonError dc_c_ReckonError pm_c_ReckonError cd_c_ReckonError ct_c_ReckonError : Value} {n_c_ReckonError : Nat} {tk_c_ReckonError tk2_c_ReckonError : Tok} {f_c_NotAllowed T_c_NotAllowed : Addr} {od_c_NotAllowed od2_c_NotAllowed an_c_NotAllowed : Option Addr} {sl_c_NotAllowed sl2_c_NotAllowed : Array (Option Value)} {oc_c_NotAllowed oc2_c_NotAllowed kV_c_NotAllowed dc_c_NotAllowed pm_c_NotAllowed cd_c_NotAllowed ct_c_NotAllowed : Value} {n_c_NotAllowed : Nat} {tk_c_NotAllowed  : Tok} {q_NotAllowed : Str} {N_NotAllowed : Addr} {bs_NotAllowed bm_NotAllowed sub_NotAllowed : List Value} {sn_NotAllowed : List Str} {ab_NotAllowed : Bool} {col_NotAllowed : Option Bool} {dd_NotAllowed : Option Addr} {k0_NotAllowed k1_NotAllowed k2_NotAllowed k3_NotAllowed k5_NotAllowed : Option Value} {f_c_TooLarge T_c_TooLarge : Addr} {od_c_TooLarge od2_c_TooLarge an_c_TooLarge : Option Addr} {sl_c_TooLarge sl2_c_TooLarge : Array (Option Value)} {oc_c_TooLarge oc2_c_TooLarge kV_c_TooLarge dc_c_TooLarge pm_c_TooLarge cd_c_TooLarge ct_c_TooLarge : Value} {n_c_TooLarge : Nat} {tk_c_TooLarge  : Tok} {q_TooLarge : Str} {N_TooLarge : Addr} {bs_TooLarge bm_TooLarge sub_TooLarge : List Value} {sn_TooLarge : List Str} {ab_TooLarge : Bool} {col_TooLarge : Option Bool} {dd_TooLarge : Option Addr} {k0_TooLarge k1_TooLarge k2_TooLarge k3_TooLarge k5_TooLarge : Option Value} {t_FIRST_END : Tok} {t_MAX_GIVEN_BITS : Tok} {t_MAX_HEIGHT : Tok} {t_MAX_MODULUS : Tok} {t_MAX_SIZE : Tok} {a_FIRST_NUMBERS : Addr} (X : K.In h) (G : h.Ns mainGlobals mg) (hfa : mg "law" = some (.ref fa))
    (a_signed_places : PySem.W.nsIn K mainGlobals "signed_places" = some (some (.ref f_signed_places)))
    (l_signed_places : K.lookup f_signed_places = some ⟨oc_signed_places, od_signed_places, .func (PySem.W.fnOf "signed_places" "signed_places" (defArgs s_signed_places) (defBody s_signed_places) (defScope s_signed_places) .none kV_signed_places dc_signed_places pm_signed_places an_signed_places cd_signed_places ct_signed_places), sl_signed_places⟩)
    (c_signed_places : PySem.W.codeIn K cd_signed_places "signed_places" = true)
    (k_signed_places : PySem.W.keepIn K (.ref f_signed_places) = true)
    (a_bare_number : PySem.W.nsIn K mainGlobals "bare_number" = some (some (.ref f_bare_number)))
    (l_bare_number : K.lookup f_bare_number = some ⟨oc_bare_number, od_bare_number, .func (PySem.W.fnOf "bare_number" "bare_number" (defArgs s_bare_number) (defBody s_bare_number) (defScope s_bare_number) .none kV_bare_number dc_bare_number pm_bare_number an_bare_number cd_bare_number ct_bare_number), sl_bare_number⟩)
    (c_bare_number : PySem.W.codeIn K cd_bare_number "bare_number" = true)
    (k_bare_number : PySem.W.keepIn K (.ref f_bare_number) = true)
    (a_value_within : PySem.W.nsIn K mainGlobals "value_within" = some (some (.ref f_value_within)))
    (l_value_within : K.lookup f_value_within = some ⟨oc_value_within, od_value_within, .func (PySem.W.fnOf "value_within" "value_within" (defArgs s_value_within) (defBody s_value_within) (defScope s_value_within) .none kV_value_within dc_value_within pm_value_within an_value_within cd_value_within ct_value_within), sl_value_within⟩)
    (c_value_within : PySem.W.codeIn K cd_value_within "value_within" = true)
    (k_value_within : PySem.W.keepIn K (.ref f_value_within) = true)
    (a_levels : PySem.W.nsIn K mainGlobals "levels" = some (some (.ref f_levels)))
    (l_levels : K.lookup f_levels = some ⟨oc_levels, od_levels, .func (PySem.W.fnOf "levels" "levels" (defArgs s_levels) (defBody s_levels) (defScope s_levels) .none kV_levels dc_levels pm_levels an_levels cd_levels ct_levels), sl_levels⟩)
    (c_levels : PySem.W.codeIn K cd_levels "levels" = true)
    (k_levels : PySem.W.keepIn K (.ref f_levels) = true)
    (a_is_allowed : PySem.W.nsIn K mainGlobals "is_allowed" = some (some (.ref f_is_allowed)))
    (l_is_allowed : K.lookup f_is_allowed = some ⟨oc_is_allowed, od_is_allowed, .func (PySem.W.fnOf "is_allowed" "is_allowed" (defArgs s_is_allowed) (defBody s_is_allowed) (defScope s_is_allowed) .none kV_is_allowed dc_is_allowed pm_is_allowed an_is_allowed cd_is_allowed ct_is_allowed), sl_is_allowed⟩)
    (c_is_allowed : PySem.W.codeIn K cd_is_allowed "is_allowed" = true)
    (k_is_allowed : PySem.W.keepIn K (.ref f_is_allowed) = true)
    (a_allowed : PySem.W.nsIn K mainGlobals "allowed" = some (some (.ref f_allowed)))
    (l_allowed : K.lookup f_allowed = some ⟨oc_allowed, od_allowed, .func (PySem.W.fnOf "allowed" "allowed" (defArgs s_allowed) (defBody s_allowed) (defScope s_allowed) .none kV_allowed dc_allowed pm_allowed an_allowed cd_allowed ct_allowed), sl_allowed⟩)
    (c_allowed : PySem.W.codeIn K cd_allowed "allowed" = true)
    (k_allowed : PySem.W.keepIn K (.ref f_allowed) = true)
    (a_sign_of : PySem.W.nsIn K mainGlobals "sign_of" = some (some (.ref f_sign_of)))
    (l_sign_of : K.lookup f_sign_of = some ⟨oc_sign_of, od_sign_of, .func (PySem.W.fnOf "sign_of" "sign_of" (defArgs s_sign_of) (defBody s_sign_of) (defScope s_sign_of) .none kV_sign_of dc_sign_of pm_sign_of an_sign_of cd_sign_of ct_sign_of), sl_sign_of⟩)
    (c_sign_of : PySem.W.codeIn K cd_sign_of "sign_of" = true)
    (k_sign_of : PySem.W.keepIn K (.ref f_sign_of) = true)
    (a_of_int : PySem.W.nsIn K mainGlobals "of_int" = some (some (.ref f_of_int)))
    (l_of_int : K.lookup f_of_int = some ⟨oc_of_int, od_of_int, .func (PySem.W.fnOf "of_int" "of_int" (defArgs s_of_int) (defBody s_of_int) (defScope s_of_int) .none kV_of_int dc_of_int pm_of_int an_of_int cd_of_int ct_of_int), sl_of_int⟩)
    (c_of_int : PySem.W.codeIn K cd_of_int "of_int" = true)
    (k_of_int : PySem.W.keepIn K (.ref f_of_int) = true)
    (a_check_modulus : PySem.W.nsIn K mainGlobals "check_modulus" = some (some (.ref f_check_modulus)))
    (l_check_modulus : K.lookup f_check_modulus = some ⟨oc_check_modulus, od_check_modulus, .func (PySem.W.fnOf "check_modulus" "check_modulus" (defArgs s_check_modulus) (defBody s_check_modulus) (defScope s_check_modulus) .none kV_check_modulus dc_check_modulus pm_check_modulus an_check_modulus cd_check_modulus ct_check_modulus), sl_check_modulus⟩)
    (c_check_modulus : PySem.W.codeIn K cd_check_modulus "check_modulus" = true)
    (k_check_modulus : PySem.W.keepIn K (.ref f_check_modulus) = true)
    (a_power_row : PySem.W.nsIn K mainGlobals "power_row" = some (some (.ref f_power_row)))
    (l_power_row : K.lookup f_power_row = some ⟨oc_power_row, od_power_row, .func (PySem.W.fnOf "power_row" "power_row" (defArgs s_power_row) (defBody s_power_row) (defScope s_power_row) .none kV_power_row dc_power_row pm_power_row an_power_row cd_power_row ct_power_row), sl_power_row⟩)
    (c_power_row : PySem.W.codeIn K cd_power_row "power_row" = true)
    (k_power_row : PySem.W.keepIn K (.ref f_power_row) = true)
    (a_power_rows : PySem.W.nsIn K mainGlobals "power_rows" = some (some (.ref f_power_rows)))
    (l_power_rows : K.lookup f_power_rows = some ⟨oc_power_rows, od_power_rows, .func (PySem.W.fnOf "power_rows" "power_rows" (defArgs s_power_rows) (defBody s_power_rows) (defScope s_power_rows) .none kV_power_rows dc_power_rows pm_power_rows an_power_rows cd_power_rows ct_power_rows), sl_power_rows⟩)
    (c_power_rows : PySem.W.codeIn K cd_power_rows "power_rows" = true)
    (k_power_rows : PySem.W.keepIn K (.ref f_power_rows) = true)
    (a_power_by_rows : PySem.W.nsIn K mainGlobals "power_by_rows" = some (some (.ref f_power_by_rows)))
    (l_power_by_rows : K.lookup f_power_by_rows = some ⟨oc_power_by_rows, od_power_by_rows, .func (PySem.W.fnOf "power_by_rows" "power_by_rows" (defArgs s_power_by_rows) (defBody s_power_by_rows) (defScope s_power_by_rows) .none kV_power_by_rows dc_power_by_rows pm_power_by_rows an_power_by_rows cd_power_by_rows ct_power_by_rows), sl_power_by_rows⟩)
    (c_power_by_rows : PySem.W.codeIn K cd_power_by_rows "power_by_rows" = true)
    (k_power_by_rows : PySem.W.keepIn K (.ref f_power_by_rows) = true)
    (a_number_by_rows : PySem.W.nsIn K mainGlobals "number_by_rows" = some (some (.ref f_number_by_rows)))
    (l_number_by_rows : K.lookup f_number_by_rows = some ⟨oc_number_by_rows, od_number_by_rows, .func (PySem.W.fnOf "number_by_rows" "number_by_rows" (defArgs s_number_by_rows) (defBody s_number_by_rows) (defScope s_number_by_rows) .none kV_number_by_rows dc_number_by_rows pm_number_by_rows an_number_by_rows cd_number_by_rows ct_number_by_rows), sl_number_by_rows⟩)
    (c_number_by_rows : PySem.W.codeIn K cd_number_by_rows "number_by_rows" = true)
    (k_number_by_rows : PySem.W.keepIn K (.ref f_number_by_rows) = true)
    (a_remainder : PySem.W.nsIn K mainGlobals "remainder" = some (some (.ref f_remainder)))
    (l_remainder : K.lookup f_remainder = some ⟨oc_remainder, od_remainder, .func (PySem.W.fnOf "remainder" "remainder" (defArgs s_remainder) (defBody s_remainder) (defScope s_remainder) .none kV_remainder dc_remainder pm_remainder an_remainder cd_remainder ct_remainder), sl_remainder⟩)
    (c_remainder : PySem.W.codeIn K cd_remainder "remainder" = true)
    (k_remainder : PySem.W.keepIn K (.ref f_remainder) = true)
    (a_power_remainder : PySem.W.nsIn K mainGlobals "power_remainder" = some (some (.ref f_power_remainder)))
    (l_power_remainder : K.lookup f_power_remainder = some ⟨oc_power_remainder, od_power_remainder, .func (PySem.W.fnOf "power_remainder" "power_remainder" (defArgs s_power_remainder) (defBody s_power_remainder) (defScope s_power_remainder) .none kV_power_remainder dc_power_remainder pm_power_remainder an_power_remainder cd_power_remainder ct_power_remainder), sl_power_remainder⟩)
    (c_power_remainder : PySem.W.codeIn K cd_power_remainder "power_remainder" = true)
    (k_power_remainder : PySem.W.keepIn K (.ref f_power_remainder) = true)
    (a_powers_of_two : PySem.W.nsIn K mainGlobals "powers_of_two" = some (some (.ref f_powers_of_two)))
    (l_powers_of_two : K.lookup f_powers_of_two = some ⟨oc_powers_of_two, od_powers_of_two, .func (PySem.W.fnOf "powers_of_two" "powers_of_two" (defArgs s_powers_of_two) (defBody s_powers_of_two) (defScope s_powers_of_two) .none kV_powers_of_two dc_powers_of_two pm_powers_of_two an_powers_of_two cd_powers_of_two ct_powers_of_two), sl_powers_of_two⟩)
    (c_powers_of_two : PySem.W.codeIn K cd_powers_of_two "powers_of_two" = true)
    (k_powers_of_two : PySem.W.keepIn K (.ref f_powers_of_two) = true)
    (a_law_cell : PySem.W.nsIn K mainGlobals "_law_cell" = some (some (.ref f_law_cell)))
    (l_law_cell : K.lookup f_law_cell = some ⟨oc_law_cell, od_law_cell, .func (PySem.W.fnOf "_law_cell" "_law_cell" (defArgs s_law_cell) (defBody s_law_cell) (defScope s_law_cell) .none kV_law_cell dc_law_cell pm_law_cell an_law_cell cd_law_cell ct_law_cell), sl_law_cell⟩)
    (c_law_cell : PySem.W.codeIn K cd_law_cell "_law_cell" = true)
    (k_law_cell : PySem.W.keepIn K (.ref f_law_cell) = true)
    (a_law_numbers : PySem.W.nsIn K mainGlobals "_law_numbers" = some (some (.ref f_law_numbers)))
    (l_law_numbers : K.lookup f_law_numbers = some ⟨oc_law_numbers, od_law_numbers, .func (PySem.W.fnOf "_law_numbers" "_law_numbers" (defArgs s_law_numbers) (defBody s_law_numbers) (defScope s_law_numbers) .none kV_law_numbers dc_law_numbers pm_law_numbers an_law_numbers cd_law_numbers ct_law_numbers), sl_law_numbers⟩)
    (c_law_numbers : PySem.W.codeIn K cd_law_numbers "_law_numbers" = true)
    (k_law_numbers : PySem.W.keepIn K (.ref f_law_numbers) = true)
    (a_law_plain : PySem.W.nsIn K mainGlobals "_law_plain" = some (some (.ref f_law_plain)))
    (l_law_plain : K.lookup f_law_plain = some ⟨oc_law_plain, od_law_plain, .func (PySem.W.fnOf "_law_plain" "_law_plain" (defArgs s_law_plain) (defBody s_law_plain) (defScope s_law_plain) .none kV_law_plain dc_law_plain pm_law_plain an_law_plain cd_law_plain ct_law_plain), sl_law_plain⟩)
    (c_law_plain : PySem.W.codeIn K cd_law_plain "_law_plain" = true)
    (k_law_plain : PySem.W.keepIn K (.ref f_law_plain) = true)
    (a_law_cycle : PySem.W.nsIn K mainGlobals "_law_cycle" = some (some (.ref f_law_cycle)))
    (l_law_cycle : K.lookup f_law_cycle = some ⟨oc_law_cycle, od_law_cycle, .func (PySem.W.fnOf "_law_cycle" "_law_cycle" (defArgs s_law_cycle) (defBody s_law_cycle) (defScope s_law_cycle) .none kV_law_cycle dc_law_cycle pm_law_cycle an_law_cycle cd_law_cycle ct_law_cycle), sl_law_cycle⟩)
    (c_law_cycle : PySem.W.codeIn K cd_law_cycle "_law_cycle" = true)
    (k_law_cycle : PySem.W.keepIn K (.ref f_law_cycle) = true)
    (a_law_refused : PySem.W.nsIn K mainGlobals "_law_refused" = some (some (.ref f_law_refused)))
    (l_law_refused : K.lookup f_law_refused = some ⟨oc_law_refused, od_law_refused, .func (PySem.W.fnOf "_law_refused" "_law_refused" (defArgs s_law_refused) (defBody s_law_refused) (defScope s_law_refused) .none kV_law_refused dc_law_refused pm_law_refused an_law_refused cd_law_refused ct_law_refused), sl_law_refused⟩)
    (c_law_refused : PySem.W.codeIn K cd_law_refused "_law_refused" = true)
    (k_law_refused : PySem.W.keepIn K (.ref f_law_refused) = true)
    (a_law_agrees : PySem.W.nsIn K mainGlobals "_law_agrees" = some (some (.ref f_law_agrees)))
    (l_law_agrees : K.lookup f_law_agrees = some ⟨oc_law_agrees, od_law_agrees, .func (PySem.W.fnOf "_law_agrees" "_law_agrees" (defArgs s_law_agrees) (defBody s_law_agrees) (defScope s_law_agrees) .none kV_law_agrees dc_law_agrees pm_law_agrees an_law_agrees cd_law_agrees ct_law_agrees), sl_law_agrees⟩)
    (c_law_agrees : PySem.W.codeIn K cd_law_agrees "_law_agrees" = true)
    (k_law_agrees : PySem.W.keepIn K (.ref f_law_agrees) = true)
    (a_law : PySem.W.nsIn K mainGlobals "law" = some (some (.ref f_law)))
    (l_law : K.lookup f_law = some ⟨oc_law, od_law, .func (PySem.W.fnOf "law" "law" (defArgs s_law) (defBody s_law) (defScope s_law) .none kV_law dc_law pm_law an_law cd_law ct_law), sl_law⟩)
    (c_law : PySem.W.codeIn K cd_law "law" = true)
    (k_law : PySem.W.keepIn K (.ref f_law) = true)
    (x1_Missing : PySem.W.nsIn K mainGlobals "Missing" = some (some (.ref a_Missing)))
    (x2_Missing : PySem.W.keepIn K (.ref a_Missing) = true)
    (x4_Missing : PySem.W.subIn K (.ref a_Missing) (.type "BaseException") = some true)
    (x5_Missing : PySem.W.typeIn K (.ref a_Missing) = some (.type "type"))
    (y1_Missing : PySem.W.findIn K (.ref a_Missing) "__getattribute__" = some (some (.builtin "BaseException.__getattribute__")))
    (y2_Missing : PySem.W.findIn K (.ref a_Missing) "__getattr__" = some none)
    (y4_Missing : PySem.W.hasDictIn K a_Missing = true)
    (y5_Missing : PySem.W.findIn K (.ref a_Missing) "__class__" = some (some (.builtin "object.__class__")))
    (y8_Missing : PySem.W.mroIn K a_Missing (.type "object") = some true)
    (x1_NotAllowed : PySem.W.nsIn K mainGlobals "NotAllowed" = some (some (.ref a_NotAllowed)))
    (x2_NotAllowed : PySem.W.keepIn K (.ref a_NotAllowed) = true)
    (x4_NotAllowed : PySem.W.subIn K (.ref a_NotAllowed) (.type "BaseException") = some true)
    (x5_NotAllowed : PySem.W.typeIn K (.ref a_NotAllowed) = some (.type "type"))
    (y1_NotAllowed : PySem.W.findIn K (.ref a_NotAllowed) "__getattribute__" = some (some (.builtin "BaseException.__getattribute__")))
    (y2_NotAllowed : PySem.W.findIn K (.ref a_NotAllowed) "__getattr__" = some none)
    (y4_NotAllowed : PySem.W.hasDictIn K a_NotAllowed = true)
    (y5_NotAllowed : PySem.W.findIn K (.ref a_NotAllowed) "__class__" = some (some (.builtin "object.__class__")))
    (y8_NotAllowed : PySem.W.mroIn K a_NotAllowed (.type "object") = some true)
    (x1_ReckonError : PySem.W.nsIn K mainGlobals "ReckonError" = some (some (.ref a_ReckonError)))
    (x2_ReckonError : PySem.W.keepIn K (.ref a_ReckonError) = true)
    (x4_ReckonError : PySem.W.subIn K (.ref a_ReckonError) (.type "BaseException") = some true)
    (x5_ReckonError : PySem.W.typeIn K (.ref a_ReckonError) = some (.type "type"))
    (y1_ReckonError : PySem.W.findIn K (.ref a_ReckonError) "__getattribute__" = some (some (.builtin "BaseException.__getattribute__")))
    (y2_ReckonError : PySem.W.findIn K (.ref a_ReckonError) "__getattr__" = some none)
    (y4_ReckonError : PySem.W.hasDictIn K a_ReckonError = true)
    (y5_ReckonError : PySem.W.findIn K (.ref a_ReckonError) "__class__" = some (some (.builtin "object.__class__")))
    (y8_ReckonError : PySem.W.mroIn K a_ReckonError (.type "object") = some true)
    (x1_TooLarge : PySem.W.nsIn K mainGlobals "TooLarge" = some (some (.ref a_TooLarge)))
    (x2_TooLarge : PySem.W.keepIn K (.ref a_TooLarge) = true)
    (x4_TooLarge : PySem.W.subIn K (.ref a_TooLarge) (.type "BaseException") = some true)
    (x5_TooLarge : PySem.W.typeIn K (.ref a_TooLarge) = some (.type "type"))
    (y1_TooLarge : PySem.W.findIn K (.ref a_TooLarge) "__getattribute__" = some (some (.builtin "BaseException.__getattribute__")))
    (y2_TooLarge : PySem.W.findIn K (.ref a_TooLarge) "__getattr__" = some none)
    (y4_TooLarge : PySem.W.hasDictIn K a_TooLarge = true)
    (y5_TooLarge : PySem.W.findIn K (.ref a_TooLarge) "__class__" = some (some (.builtin "object.__class__")))
    (y8_TooLarge : PySem.W.mroIn K a_TooLarge (.type "object") = some true)
    (vV : PySem.W.findCls K (.type "ValueError") (.type "type") "__init__" = some (.val (.builtin "ValueError.__init__")))
    (i1_ReckonError : PySem.W.findIn K (.ref a_ReckonError) "__init__" = some (some (.ref f_c_ReckonError)))
    (i2_ReckonError : PySem.W.typeIn K (.ref f_c_ReckonError) = some (.type "function"))
    (i3_ReckonError : K.lookup f_c_ReckonError = some ⟨oc_c_ReckonError, od_c_ReckonError, .func (PySem.W.fnOf "__init__" "ReckonError.__init__" (defArgs s_c_ReckonError) (defBody s_c_ReckonError) (defScope s_c_ReckonError) (.ref T_c_ReckonError) kV_c_ReckonError dc_c_ReckonError pm_c_ReckonError an_c_ReckonError cd_c_ReckonError ct_c_ReckonError), sl_c_ReckonError⟩)
    (i4_ReckonError : K.lookup T_c_ReckonError = some ⟨oc2_c_ReckonError, od2_c_ReckonError, .seq #[.str "" tk_c_ReckonError, .str "" tk2_c_ReckonError] n_c_ReckonError, sl2_c_ReckonError⟩)
    (i5_ReckonError : PySem.W.codeIn K cd_c_ReckonError "ReckonError.__init__" = true)
    (i6_ReckonError : PySem.W.keepIn K (.ref f_c_ReckonError) = true)
    (g1_R : PySem.W.readsIn K a_ReckonError (.type "type") = true)
    (g2_R : PySem.W.specialIn K (.ref a_ReckonError) "__getattribute__" = some (some (.builtin "type.__getattribute__")))
    (g3_R : PySem.W.findCls K (.ref a_ReckonError) (.type "type") "__init__" = some (.val (.ref f_c_ReckonError)))
    (i1_NotAllowed : PySem.W.findIn K (.ref a_NotAllowed) "__init__" = some (some (.ref f_c_NotAllowed)))
    (i2_NotAllowed : PySem.W.typeIn K (.ref f_c_NotAllowed) = some (.type "function"))
    (i3_NotAllowed : K.lookup f_c_NotAllowed = some ⟨oc_c_NotAllowed, od_c_NotAllowed, .func (PySem.W.fnOf "__init__" "NotAllowed.__init__" (defArgs s_c_NotAllowed) (defBody s_c_NotAllowed) (defScope s_c_NotAllowed) (.ref T_c_NotAllowed) kV_c_NotAllowed dc_c_NotAllowed pm_c_NotAllowed an_c_NotAllowed cd_c_NotAllowed ct_c_NotAllowed), sl_c_NotAllowed⟩)
    (i4_NotAllowed : K.lookup T_c_NotAllowed = some ⟨oc2_c_NotAllowed, od2_c_NotAllowed, .seq #[.str "" tk_c_NotAllowed] n_c_NotAllowed, sl2_c_NotAllowed⟩)
    (i5_NotAllowed : PySem.W.codeIn K cd_c_NotAllowed "NotAllowed.__init__" = true)
    (i6_NotAllowed : PySem.W.keepIn K (.ref f_c_NotAllowed) = true)
    (o1_NotAllowed : K.lookup a_NotAllowed = some (excClassObj "NotAllowed" q_NotAllowed a_NotAllowed N_NotAllowed bs_NotAllowed bm_NotAllowed true sn_NotAllowed sub_NotAllowed ab_NotAllowed col_NotAllowed dd_NotAllowed k0_NotAllowed k1_NotAllowed k2_NotAllowed k3_NotAllowed k5_NotAllowed "ValueError.__new__"))
    (o2_NotAllowed : PySem.HandSPX.refsVE bm_NotAllowed = true)
    (o3_NotAllowed : PySem.W.findIn K (.ref a_NotAllowed) "__setattr__" = some (some (.builtin "object.__setattr__")))
    (o4_NotAllowed : PySem.W.findIn K (.ref a_NotAllowed) "word" = some none)
    (i1_TooLarge : PySem.W.findIn K (.ref a_TooLarge) "__init__" = some (some (.ref f_c_TooLarge)))
    (i2_TooLarge : PySem.W.typeIn K (.ref f_c_TooLarge) = some (.type "function"))
    (i3_TooLarge : K.lookup f_c_TooLarge = some ⟨oc_c_TooLarge, od_c_TooLarge, .func (PySem.W.fnOf "__init__" "TooLarge.__init__" (defArgs s_c_TooLarge) (defBody s_c_TooLarge) (defScope s_c_TooLarge) (.ref T_c_TooLarge) kV_c_TooLarge dc_c_TooLarge pm_c_TooLarge an_c_TooLarge cd_c_TooLarge ct_c_TooLarge), sl_c_TooLarge⟩)
    (i4_TooLarge : K.lookup T_c_TooLarge = some ⟨oc2_c_TooLarge, od2_c_TooLarge, .seq #[.str "" tk_c_TooLarge] n_c_TooLarge, sl2_c_TooLarge⟩)
    (i5_TooLarge : PySem.W.codeIn K cd_c_TooLarge "TooLarge.__init__" = true)
    (i6_TooLarge : PySem.W.keepIn K (.ref f_c_TooLarge) = true)
    (o1_TooLarge : K.lookup a_TooLarge = some (excClassObj "TooLarge" q_TooLarge a_TooLarge N_TooLarge bs_TooLarge bm_TooLarge true sn_TooLarge sub_TooLarge ab_TooLarge col_TooLarge dd_TooLarge k0_TooLarge k1_TooLarge k2_TooLarge k3_TooLarge k5_TooLarge "ValueError.__new__"))
    (o2_TooLarge : PySem.HandSPX.refsVE bm_TooLarge = true)
    (o3_TooLarge : PySem.W.findIn K (.ref a_TooLarge) "__setattr__" = some (some (.builtin "object.__setattr__")))
    (o4_TooLarge : PySem.W.findIn K (.ref a_TooLarge) "word" = some none)
    (y6 : PySem.W.specialIn K (.builtin "object.__class__") "__get__" = some (some (.builtin "getset_descriptor.__get__")))
    (y7 : PySem.W.takesIn K (.builtin "object.__class__") = some true)
    (s_NotAllowed_NotAllowed : PySem.W.subIn K (.ref a_NotAllowed) (.ref a_NotAllowed) = some true)
    (s_NotAllowed_ReckonError : PySem.W.subIn K (.ref a_NotAllowed) (.ref a_ReckonError) = some true)
    (s_NotAllowed_Missing : PySem.W.subIn K (.ref a_NotAllowed) (.ref a_Missing) = some false)
    (s_NotAllowed_TooLarge : PySem.W.subIn K (.ref a_NotAllowed) (.ref a_TooLarge) = some false)
    (z_ValueError : PySem.W.nsIn K mainGlobals "ValueError" = some none)
    (z_bool : PySem.W.nsIn K mainGlobals "bool" = some none)
    (z_int : PySem.W.nsIn K mainGlobals "int" = some none)
    (z_isinstance : PySem.W.nsIn K mainGlobals "isinstance" = some none)
    (z_len : PySem.W.nsIn K mainGlobals "len" = some none)
    (z_max : PySem.W.nsIn K mainGlobals "max" = some none)
    (z_min : PySem.W.nsIn K mainGlobals "min" = some none)
    (z_range : PySem.W.nsIn K mainGlobals "range" = some none)
    (z_sum : PySem.W.nsIn K mainGlobals "sum" = some none)
    (z_tuple : PySem.W.nsIn K mainGlobals "tuple" = some none)
    (w_FIRST_END : PySem.W.nsIn K mainGlobals "FIRST_END" = some (some (.int 8 t_FIRST_END)))
    (w_MAX_GIVEN_BITS : PySem.W.nsIn K mainGlobals "MAX_GIVEN_BITS" = some (some (.int 2900 t_MAX_GIVEN_BITS)))
    (w_MAX_HEIGHT : PySem.W.nsIn K mainGlobals "MAX_HEIGHT" = some (some (.int 40 t_MAX_HEIGHT)))
    (w_MAX_MODULUS : PySem.W.nsIn K mainGlobals "MAX_MODULUS" = some (some (.int 10000 t_MAX_MODULUS)))
    (w_MAX_SIZE : PySem.W.nsIn K mainGlobals "MAX_SIZE" = some (some (.int 300 t_MAX_SIZE)))
    (v1_FIRST_NUMBERS : PySem.W.nsIn K mainGlobals "FIRST_NUMBERS" = some (some (.ref a_FIRST_NUMBERS)))
    (v2_FIRST_NUMBERS : kdat K 14 (.ref a_FIRST_NUMBERS) = some firstD) :
    ∃ fd : FuncData, (∀ (s : Shared) (v : Value), BindsTo s fd ⟨[v], []⟩ [("script", v)]) ∧ ∀ base : Heap, K.In base → base.Ns mainGlobals mg → FnOk l.prog w K mg base CX0 160 fa fd ["script"] (sp_law K) := by
  have e := hfa.symm.trans (PySem.W.mg_of X G a_law)
  cases e
  have F_signed_places := fun_mk (st := s_signed_places) l_signed_places c_signed_places k_signed_places
  have D_signed_places : DefAt K mg "signed_places" s_signed_places ["value"] _ _ := ⟨F_signed_places, PySem.W.mg_of X G a_signed_places, F_signed_places.binds (ps := ["value"]) fun _ _ _ _ _ _ us hl => match us, hl with | [_], _ => rfl⟩
  have F_bare_number := fun_mk (st := s_bare_number) l_bare_number c_bare_number k_bare_number
  have D_bare_number : DefAt K mg "bare_number" s_bare_number ["value"] _ _ := ⟨F_bare_number, PySem.W.mg_of X G a_bare_number, F_bare_number.binds (ps := ["value"]) fun _ _ _ _ _ _ us hl => match us, hl with | [_], _ => rfl⟩
  have F_value_within := fun_mk (st := s_value_within) l_value_within c_value_within k_value_within
  have D_value_within : DefAt K mg "value_within" s_value_within ["number", "bits"] _ _ := ⟨F_value_within, PySem.W.mg_of X G a_value_within, F_value_within.binds (ps := ["number", "bits"]) fun _ _ _ _ _ _ us hl => match us, hl with | [_, _], _ => rfl⟩
  have F_levels := fun_mk (st := s_levels) l_levels c_levels k_levels
  have D_levels : DefAt K mg "levels" s_levels ["number"] _ _ := ⟨F_levels, PySem.W.mg_of X G a_levels, F_levels.binds (ps := ["number"]) fun _ _ _ _ _ _ us hl => match us, hl with | [_], _ => rfl⟩
  have F_is_allowed := fun_mk (st := s_is_allowed) l_is_allowed c_is_allowed k_is_allowed
  have D_is_allowed : DefAt K mg "is_allowed" s_is_allowed ["number"] _ _ := ⟨F_is_allowed, PySem.W.mg_of X G a_is_allowed, F_is_allowed.binds (ps := ["number"]) fun _ _ _ _ _ _ us hl => match us, hl with | [_], _ => rfl⟩
  have F_allowed := fun_mk (st := s_allowed) l_allowed c_allowed k_allowed
  have D_allowed : DefAt K mg "allowed" s_allowed ["number"] _ _ := ⟨F_allowed, PySem.W.mg_of X G a_allowed, F_allowed.binds (ps := ["number"]) fun _ _ _ _ _ _ us hl => match us, hl with | [_], _ => rfl⟩
  have F_sign_of := fun_mk (st := s_sign_of) l_sign_of c_sign_of k_sign_of
  have D_sign_of : DefAt K mg "sign_of" s_sign_of ["number"] _ _ := ⟨F_sign_of, PySem.W.mg_of X G a_sign_of, F_sign_of.binds (ps := ["number"]) fun _ _ _ _ _ _ us hl => match us, hl with | [_], _ => rfl⟩
  have F_of_int := fun_mk (st := s_of_int) l_of_int c_of_int k_of_int
  have D_of_int : DefAt K mg "of_int" s_of_int ["value"] _ _ := ⟨F_of_int, PySem.W.mg_of X G a_of_int, F_of_int.binds (ps := ["value"]) fun _ _ _ _ _ _ us hl => match us, hl with | [_], _ => rfl⟩
  have F_check_modulus := fun_mk (st := s_check_modulus) l_check_modulus c_check_modulus k_check_modulus
  have D_check_modulus : DefAt K mg "check_modulus" s_check_modulus ["m"] _ _ := ⟨F_check_modulus, PySem.W.mg_of X G a_check_modulus, F_check_modulus.binds (ps := ["m"]) fun _ _ _ _ _ _ us hl => match us, hl with | [_], _ => rfl⟩
  have F_power_row := fun_mk (st := s_power_row) l_power_row c_power_row k_power_row
  have D_power_row : DefAt K mg "power_row" s_power_row ["m"] _ _ := ⟨F_power_row, PySem.W.mg_of X G a_power_row, F_power_row.binds (ps := ["m"]) fun _ _ _ _ _ _ us hl => match us, hl with | [_], _ => rfl⟩
  have F_power_rows := fun_mk (st := s_power_rows) l_power_rows c_power_rows k_power_rows
  have D_power_rows : DefAt K mg "power_rows" s_power_rows ["m"] _ _ := ⟨F_power_rows, PySem.W.mg_of X G a_power_rows, F_power_rows.binds (ps := ["m"]) fun _ _ _ _ _ _ us hl => match us, hl with | [_], _ => rfl⟩
  have F_power_by_rows := fun_mk (st := s_power_by_rows) l_power_by_rows c_power_by_rows k_power_by_rows
  have D_power_by_rows : DefAt K mg "power_by_rows" s_power_by_rows ["exponent", "rows", "at"] _ _ := ⟨F_power_by_rows, PySem.W.mg_of X G a_power_by_rows, F_power_by_rows.binds (ps := ["exponent", "rows", "at"]) fun _ _ _ _ _ _ us hl => match us, hl with | [_, _, _], _ => rfl⟩
  have F_number_by_rows := fun_mk (st := s_number_by_rows) l_number_by_rows c_number_by_rows k_number_by_rows
  have D_number_by_rows : DefAt K mg "number_by_rows" s_number_by_rows ["x", "rows", "at"] _ _ := ⟨F_number_by_rows, PySem.W.mg_of X G a_number_by_rows, F_number_by_rows.binds (ps := ["x", "rows", "at"]) fun _ _ _ _ _ _ us hl => match us, hl with | [_, _, _], _ => rfl⟩
  have F_remainder := fun_mk (st := s_remainder) l_remainder c_remainder k_remainder
  have D_remainder : DefAt K mg "remainder" s_remainder ["x", "m"] _ _ := ⟨F_remainder, PySem.W.mg_of X G a_remainder, F_remainder.binds (ps := ["x", "m"]) fun _ _ _ _ _ _ us hl => match us, hl with | [_, _], _ => rfl⟩
  have F_power_remainder := fun_mk (st := s_power_remainder) l_power_remainder c_power_remainder k_power_remainder
  have D_power_remainder : DefAt K mg "power_remainder" s_power_remainder ["exponent", "m"] _ _ := ⟨F_power_remainder, PySem.W.mg_of X G a_power_remainder, F_power_remainder.binds (ps := ["exponent", "m"]) fun _ _ _ _ _ _ us hl => match us, hl with | [_, _], _ => rfl⟩
  have F_powers_of_two := fun_mk (st := s_powers_of_two) l_powers_of_two c_powers_of_two k_powers_of_two
  have D_powers_of_two : DefAt K mg "powers_of_two" s_powers_of_two ["m"] _ _ := ⟨F_powers_of_two, PySem.W.mg_of X G a_powers_of_two, F_powers_of_two.binds (ps := ["m"]) fun _ _ _ _ _ _ us hl => match us, hl with | [_], _ => rfl⟩
  have F_law_cell := fun_mk (st := s_law_cell) l_law_cell c_law_cell k_law_cell
  have D__law_cell : DefAt K mg "_law_cell" s_law_cell ["script", "k"] _ _ := ⟨F_law_cell, PySem.W.mg_of X G a_law_cell, F_law_cell.binds (ps := ["script", "k"]) fun _ _ _ _ _ _ us hl => match us, hl with | [_, _], _ => rfl⟩
  have F_law_numbers := fun_mk (st := s_law_numbers) l_law_numbers c_law_numbers k_law_numbers
  have D__law_numbers : DefAt K mg "_law_numbers" s_law_numbers ["cell", "k", "many"] _ _ := ⟨F_law_numbers, PySem.W.mg_of X G a_law_numbers, F_law_numbers.binds (ps := ["cell", "k", "many"]) fun _ _ _ _ _ _ us hl => match us, hl with | [_, _, _], _ => rfl⟩
  have F_law_plain := fun_mk (st := s_law_plain) l_law_plain c_law_plain k_law_plain
  have D__law_plain : DefAt K mg "_law_plain" s_law_plain ["numbers", "at", "most"] _ _ := ⟨F_law_plain, PySem.W.mg_of X G a_law_plain, F_law_plain.binds (ps := ["numbers", "at", "most"]) fun _ _ _ _ _ _ us hl => match us, hl with | [_, _, _], _ => rfl⟩
  have F_law_cycle := fun_mk (st := s_law_cycle) l_law_cycle c_law_cycle k_law_cycle
  have D__law_cycle : DefAt K mg "_law_cycle" s_law_cycle ["m"] _ _ := ⟨F_law_cycle, PySem.W.mg_of X G a_law_cycle, F_law_cycle.binds (ps := ["m"]) fun _ _ _ _ _ _ us hl => match us, hl with | [_], _ => rfl⟩
  have F_law_refused := fun_mk (st := s_law_refused) l_law_refused c_law_refused k_law_refused
  have D__law_refused : DefAt K mg "_law_refused" s_law_refused ["door", "m"] _ _ := ⟨F_law_refused, PySem.W.mg_of X G a_law_refused, F_law_refused.binds (ps := ["door", "m"]) fun _ _ _ _ _ _ us hl => match us, hl with | [_, _], _ => rfl⟩
  have F_law_agrees := fun_mk (st := s_law_agrees) l_law_agrees c_law_agrees k_law_agrees
  have D__law_agrees : DefAt K mg "_law_agrees" s_law_agrees ["value", "exponent", "m"] _ _ := ⟨F_law_agrees, PySem.W.mg_of X G a_law_agrees, F_law_agrees.binds (ps := ["value", "exponent", "m"]) fun _ _ _ _ _ _ us hl => match us, hl with | [_, _, _], _ => rfl⟩
  have F_law := fun_mk (st := s_law) l_law c_law k_law
  have D_law : DefAt K mg "law" s_law ["script"] _ _ := ⟨F_law, PySem.W.mg_of X G a_law, F_law.binds (ps := ["script"]) fun _ _ _ _ _ _ us hl => match us, hl with | [_], _ => rfl⟩
  have C_Missing : ClsAt K mg "Missing" a_Missing := ⟨PySem.W.mg_of X G x1_Missing, x2_Missing, x4_Missing, x5_Missing, ⟨y1_Missing, y2_Missing, x4_Missing, y4_Missing, y5_Missing, y6, y7, y8_Missing⟩⟩
  have C_NotAllowed : ClsAt K mg "NotAllowed" a_NotAllowed := ⟨PySem.W.mg_of X G x1_NotAllowed, x2_NotAllowed, x4_NotAllowed, x5_NotAllowed, ⟨y1_NotAllowed, y2_NotAllowed, x4_NotAllowed, y4_NotAllowed, y5_NotAllowed, y6, y7, y8_NotAllowed⟩⟩
  have C_ReckonError : ClsAt K mg "ReckonError" a_ReckonError := ⟨PySem.W.mg_of X G x1_ReckonError, x2_ReckonError, x4_ReckonError, x5_ReckonError, ⟨y1_ReckonError, y2_ReckonError, x4_ReckonError, y4_ReckonError, y5_ReckonError, y6, y7, y8_ReckonError⟩⟩
  have C_TooLarge : ClsAt K mg "TooLarge" a_TooLarge := ⟨PySem.W.mg_of X G x1_TooLarge, x2_TooLarge, x4_TooLarge, x5_TooLarge, ⟨y1_TooLarge, y2_TooLarge, x4_TooLarge, y4_TooLarge, y5_TooLarge, y6, y7, y8_TooLarge⟩⟩
  have b_ValueError := PySem.W.mg_none_of X G z_ValueError
  have b_bool := PySem.W.mg_none_of X G z_bool
  have b_int := PySem.W.mg_none_of X G z_int
  have b_isinstance := PySem.W.mg_none_of X G z_isinstance
  have b_len := PySem.W.mg_none_of X G z_len
  have b_max := PySem.W.mg_none_of X G z_max
  have b_min := PySem.W.mg_none_of X G z_min
  have b_range := PySem.W.mg_none_of X G z_range
  have b_sum := PySem.W.mg_none_of X G z_sum
  have b_tuple := PySem.W.mg_none_of X G z_tuple
  have m_FIRST_END := PySem.W.mg_of X G w_FIRST_END
  have m_MAX_GIVEN_BITS := PySem.W.mg_of X G w_MAX_GIVEN_BITS
  have m_MAX_HEIGHT := PySem.W.mg_of X G w_MAX_HEIGHT
  have m_MAX_MODULUS := PySem.W.mg_of X G w_MAX_MODULUS
  have m_MAX_SIZE := PySem.W.mg_of X G w_MAX_SIZE
  have m_FIRST_NUMBERS := PySem.W.mg_of X G v1_FIRST_NUMBERS
  have d_FIRST_NUMBERS : FirstAt K a_FIRST_NUMBERS := first_mk v2_FIRST_NUMBERS
  have hex := PySem.W.exm_ref x4_NotAllowed y4_NotAllowed x5_NotAllowed s_NotAllowed_NotAllowed
  have hR := kit_ref C_ReckonError s_NotAllowed_NotAllowed s_NotAllowed_ReckonError
  have hA := kit_two (kit_ref C_Missing s_NotAllowed_NotAllowed s_NotAllowed_Missing) (kit_ref C_TooLarge s_NotAllowed_NotAllowed s_NotAllowed_TooLarge)
  refine ⟨PySem.W.fnOf "law" "law" (defArgs s_law) (defBody s_law) (defScope s_law) .none kV_law dc_law pm_law an_law cd_law ct_law, fun s v => .of_eq rfl, fun base _ _ => ?_⟩
  have I_R := init_mk2 (st := s_c_ReckonError) i3_ReckonError i4_ReckonError i5_ReckonError i6_ReckonError
  have B_R := binds_full (I_R.binds1 (ps := ["self", "why", "word"]) 3 2 (by simp) rfl (fun T kV doc pm an cdv ct us its hl hi => match us, its, hl, hi with | [_, _, _], [_, _], _, _ => ⟨_, rfl, rfl⟩)) rfl
  have G_R := ok_c_ReckonError (P := l.prog) (w := w) (base := base) I_R b_ValueError vV
  have I_NotAllowed := init_mk1 (st := s_c_NotAllowed) i3_NotAllowed i4_NotAllowed i5_NotAllowed i6_NotAllowed
  have B_NotAllowed := binds_full (I_NotAllowed.binds1 (ps := ["self", "why"]) 2 1 (by simp) rfl (fun T kV doc pm an cdv ct us its hl hi => match us, its, hl, hi with | [_, _], [_], _, _ => ⟨_, rfl, rfl⟩)) rfl
  have X_NotAllowed : ErrC l.prog w K mg base "NotAllowed" a_NotAllowed := ⟨C_NotAllowed.m, (oex_mk o1_NotAllowed o2_NotAllowed o3_NotAllowed C_NotAllowed).1, (oex_mk o1_NotAllowed o2_NotAllowed o3_NotAllowed C_NotAllowed).2, o4_NotAllowed, _, _, i1_NotAllowed, i2_NotAllowed, B_NotAllowed, ok_c_NotAllowed (P := l.prog) (w := w) (base := base) I_NotAllowed C_ReckonError.m ⟨g1_R, g2_R⟩ ⟨g3_R, rfl⟩ i6_ReckonError G_R B_R⟩
  have I_TooLarge := init_mk1 (st := s_c_TooLarge) i3_TooLarge i4_TooLarge i5_TooLarge i6_TooLarge
  have B_TooLarge := binds_full (I_TooLarge.binds1 (ps := ["self", "why"]) 2 1 (by simp) rfl (fun T kV doc pm an cdv ct us its hl hi => match us, its, hl, hi with | [_, _], [_], _, _ => ⟨_, rfl, rfl⟩)) rfl
  have X_TooLarge : ErrC l.prog w K mg base "TooLarge" a_TooLarge := ⟨C_TooLarge.m, (oex_mk o1_TooLarge o2_TooLarge o3_TooLarge C_TooLarge).1, (oex_mk o1_TooLarge o2_TooLarge o3_TooLarge C_TooLarge).2, o4_TooLarge, _, _, i1_TooLarge, i2_TooLarge, B_TooLarge, ok_c_TooLarge (P := l.prog) (w := w) (base := base) I_TooLarge C_ReckonError.m ⟨g1_R, g2_R⟩ ⟨g3_R, rfl⟩ i6_ReckonError G_R B_R⟩
  have G_signed_places := ok_signed_places (P := l.prog) (w := w) (base := base) (k := 0) D_signed_places     
  have G_bare_number := all_bare_number (P := l.prog) (w := w) (base := base) D_bare_number D_signed_places G_signed_places b_tuple m_FIRST_END m_FIRST_NUMBERS d_FIRST_NUMBERS 7
  have G_value_within := all_value_within (P := l.prog) (w := w) (base := base) D_value_within   m_FIRST_END m_FIRST_NUMBERS d_FIRST_NUMBERS 45
  have G_levels := ok_levels (P := l.prog) (w := w) (base := base) (k := 0) D_levels     
  have G_is_allowed := ok_is_allowed (P := l.prog) (w := w) (base := base) (k := 1) D_is_allowed  D_levels G_levels (by decide) b_sum b_len m_MAX_SIZE m_MAX_HEIGHT 
  have G_allowed := ok_allowed (P := l.prog) (w := w) (base := base) (k := 3) D_allowed C_TooLarge X_TooLarge (by decide) D_is_allowed G_is_allowed (by decide)   
  have G_sign_of := ok_sign_of (P := l.prog) (w := w) (base := base) (k := 0) D_sign_of     
  have G_of_int := ok_of_int (P := l.prog) (w := w) (base := base) (k := 8) D_of_int C_NotAllowed C_TooLarge X_NotAllowed (by decide) D_allowed G_allowed (by decide) D_bare_number G_bare_number (by decide)  m_MAX_GIVEN_BITS 
  have G_check_modulus := ok_check_modulus (P := l.prog) (w := w) (base := base) (k := 3) D_check_modulus C_NotAllowed X_NotAllowed (by decide)   m_MAX_MODULUS 
  have G_power_row := ok_power_row (P := l.prog) (w := w) (base := base) (k := 0) D_power_row   b_len  
  have G_power_rows := ok_power_rows (P := l.prog) (w := w) (base := base) (k := 1) D_power_rows  D_power_row G_power_row (by decide) b_len  
  have G_power_by_rows := True.intro
  have G_number_by_rows := (all_by_rows (P := l.prog) (w := w) (base := base) D_number_by_rows D_power_by_rows D_value_within G_value_within b_len b_sum 45).1
  have G_remainder := ok_remainder (P := l.prog) (w := w) (base := base) (k := 136) D_remainder C_NotAllowed D_check_modulus G_check_modulus (by decide) D_number_by_rows G_number_by_rows (by decide) D_power_rows G_power_rows (by decide)   
  have G_power_remainder := ok_power_remainder (P := l.prog) (w := w) (base := base) (k := 137) D_power_remainder C_NotAllowed X_NotAllowed (by decide) D_check_modulus G_check_modulus (by decide) D_sign_of G_sign_of (by decide) D_remainder G_remainder (by decide)   
  have G_powers_of_two := ok_powers_of_two (P := l.prog) (w := w) (base := base) (k := 4) D_powers_of_two C_NotAllowed D_check_modulus G_check_modulus (by decide) D_power_row G_power_row (by decide) b_len  
  have G__law_cell := ok_law_cell (P := l.prog) (w := w) (base := base) (k := 0) D__law_cell   b_len  
  have G__law_numbers := ok_law_numbers (P := l.prog) (w := w) (base := base) (k := 0) D__law_numbers   b_range b_int  
  have G__law_plain := ok_law_plain (P := l.prog) (w := w) (base := base) (k := 0) D__law_plain   b_range b_int  
  have G__law_cycle := ok_law_cycle (P := l.prog) (w := w) (base := base) (k := 0) D__law_cycle   b_range  
  have G__law_refused := ok_law_refused (P := l.prog) (w := w) (base := base) (k := 138) D__law_refused C_Missing C_NotAllowed C_ReckonError C_TooLarge D_remainder G_remainder (by decide) D_of_int G_of_int (by decide) D_power_remainder G_power_remainder (by decide) D_powers_of_two G_powers_of_two (by decide) b_isinstance  hex hR hA
  have G__law_agrees := ok_law_agrees (P := l.prog) (w := w) (base := base) (k := 138) D__law_agrees C_NotAllowed C_TooLarge D_of_int G_of_int (by decide) D_remainder G_remainder (by decide) D_power_remainder G_power_remainder (by decide) b_int b_isinstance b_bool  
  have G_law := ok_law (P := l.prog) (w := w) (base := base) (k := 139) D_law C_NotAllowed C_TooLarge D__law_numbers G__law_numbers (by decide) D__law_cell G__law_cell (by decide) D__law_plain G__law_plain (by decide) D__law_agrees G__law_agrees (by decide) D_powers_of_two G_powers_of_two (by decide) D__law_cycle G__law_cycle (by decide) D__law_refused G__law_refused (by decide) b_range b_max b_min b_len b_int m_MAX_MODULUS 
  exact G_law.mono (by decide)
theorem walk {l : PySem.W.OpenLaw} {q : Program} {loose : List Str} {XP : (Str → Option Value) → Heap → Prop} {YP : World → Heap → Prop} {d : DefRec} {K : Params → PySem.W.Frag} (hn : l.most = some 63) (hdf : d.params.defaults = [])
    (hY : ∀ (w : World) (h : Heap), YP w h → (K w.params).In h)
    (F : ∀ (w : World) (mg : Str → Option Value) (fa : Addr) (h : Heap), (K w.params).In h → h.Ns mainGlobals mg → mg d.name = some (.ref fa) →
      ∃ fd : FuncData, (∀ (s : Shared) (u : Value), BindsTo s fd ⟨[u], []⟩ [("script", u)]) ∧ ∀ base : Heap, (K w.params).In base → base.Ns mainGlobals mg → FnOk l.prog w (K w.params) mg base CX0 160 fa fd ["script"] (sp_law (K w.params))) :
    PySem.W.WalkO q loose XP YP l.row.toRowW d [] (fun f vs => PySem.call f vs) :=
  L2.walk_of (n := 63) (k := 160) (x := "script") (CX := fun _ => CX0) (sp := fun w => sp_law (K w.params)) hn (by decide) hdf ⟨rfl, by decide, by decide⟩ hY F (fun _ _ a ns hl _ hS => ⟨.ref a, _, rfl, ⟨a, ns, rfl, hS, hl, rfl⟩, fun _ _ _ z => z⟩) fun _ _ _ _ _ z => z
end Sk
open PySem PySem.W PyProof.Rows
set_option maxRecDepth 100000 in
set_option maxHeartbeats 0 in
theorem PySem.Challenge.cw_sandreckoner_k15_remainders_of_plain_num_holds : PySem.Challenge.rw_sandreckoner_k15_remainders_of_plain_num.Holds := by
  w_on; o_law; k_head; (case hw => w_witness2)
  k_fill
  refine Sk.walk (l := PySem.Challenge.rw_sandreckoner_k15_remainders_of_plain_num) rfl rfl (fun w h Y => PySem.W.kIn_of Y) ?F
  case F =>
    intro w mg fa h KX G hmg
    refine' Sk.all_mk KX G hmg ?a_signed_places ?l_signed_places ?c_signed_places ?k_signed_places ?a_bare_number ?l_bare_number ?c_bare_number ?k_bare_number ?a_value_within ?l_value_within ?c_value_within ?k_value_within ?a_levels ?l_levels ?c_levels ?k_levels ?a_is_allowed ?l_is_allowed ?c_is_allowed ?k_is_allowed ?a_allowed ?l_allowed ?c_allowed ?k_allowed ?a_sign_of ?l_sign_of ?c_sign_of ?k_sign_of ?a_of_int ?l_of_int ?c_of_int ?k_of_int ?a_check_modulus ?l_check_modulus ?c_check_modulus ?k_check_modulus ?a_power_row ?l_power_row ?c_power_row ?k_power_row ?a_power_rows ?l_power_rows ?c_power_rows ?k_power_rows ?a_power_by_rows ?l_power_by_rows ?c_power_by_rows ?k_power_by_rows ?a_number_by_rows ?l_number_by_rows ?c_number_by_rows ?k_number_by_rows ?a_remainder ?l_remainder ?c_remainder ?k_remainder ?a_power_remainder ?l_power_remainder ?c_power_remainder ?k_power_remainder ?a_powers_of_two ?l_powers_of_two ?c_powers_of_two ?k_powers_of_two ?a_law_cell ?l_law_cell ?c_law_cell ?k_law_cell ?a_law_numbers ?l_law_numbers ?c_law_numbers ?k_law_numbers ?a_law_plain ?l_law_plain ?c_law_plain ?k_law_plain ?a_law_cycle ?l_law_cycle ?c_law_cycle ?k_law_cycle ?a_law_refused ?l_law_refused ?c_law_refused ?k_law_refused ?a_law_agrees ?l_law_agrees ?c_law_agrees ?k_law_agrees ?a_law ?l_law ?c_law ?k_law ?x1_Missing ?x2_Missing ?x4_Missing ?x5_Missing ?y1_Missing ?y2_Missing ?y4_Missing ?y5_Missing ?y8_Missing ?x1_NotAllowed ?x2_NotAllowed ?x4_NotAllowed ?x5_NotAllowed ?y1_NotAllowed ?y2_NotAllowed ?y4_NotAllowed ?y5_NotAllowed ?y8_NotAllowed ?x1_ReckonError ?x2_ReckonError ?x4_ReckonError ?x5_ReckonError ?y1_ReckonError ?y2_ReckonError ?y4_ReckonError ?y5_ReckonError ?y8_ReckonError ?x1_TooLarge ?x2_TooLarge ?x4_TooLarge ?x5_TooLarge ?y1_TooLarge ?y2_TooLarge ?y4_TooLarge ?y5_TooLarge ?y8_TooLarge ?vV ?i1_ReckonError ?i2_ReckonError ?i3_ReckonError ?i4_ReckonError ?i5_ReckonError ?i6_ReckonError ?g1_R ?g2_R ?g3_R ?i1_NotAllowed ?i2_NotAllowed ?i3_NotAllowed ?i4_NotAllowed ?i5_NotAllowed ?i6_NotAllowed ?o1_NotAllowed ?o2_NotAllowed ?o3_NotAllowed ?o4_NotAllowed ?i1_TooLarge ?i2_TooLarge ?i3_TooLarge ?i4_TooLarge ?i5_TooLarge ?i6_TooLarge ?o1_TooLarge ?o2_TooLarge ?o3_TooLarge ?o4_TooLarge ?y6 ?y7 ?s_NotAllowed_NotAllowed ?s_NotAllowed_ReckonError ?s_NotAllowed_Missing ?s_NotAllowed_TooLarge ?z_ValueError ?z_bool ?z_int ?z_isinstance ?z_len ?z_max ?z_min ?z_range ?z_sum ?z_tuple ?w_FIRST_END ?w_MAX_GIVEN_BITS ?w_MAX_HEIGHT ?w_MAX_MODULUS ?w_MAX_SIZE ?v1_FIRST_NUMBERS ?v2_FIRST_NUMBERS
    (case a_signed_places => k_is)
    (case l_signed_places => k_is)
    (case c_signed_places => k_is)
    (case k_signed_places => k_is)
    (case a_bare_number => k_is)
    (case l_bare_number => k_is)
    (case c_bare_number => k_is)
    (case k_bare_number => k_is)
    (case a_value_within => k_is)
    (case l_value_within => k_is)
    (case c_value_within => k_is)
    (case k_value_within => k_is)
    (case a_levels => k_is)
    (case l_levels => k_is)
    (case c_levels => k_is)
    (case k_levels => k_is)
    (case a_is_allowed => k_is)
    (case l_is_allowed => k_is)
    (case c_is_allowed => k_is)
    (case k_is_allowed => k_is)
    (case a_allowed => k_is)
    (case l_allowed => k_is)
    (case c_allowed => k_is)
    (case k_allowed => k_is)
    (case a_sign_of => k_is)
    (case l_sign_of => k_is)
    (case c_sign_of => k_is)
    (case k_sign_of => k_is)
    (case a_of_int => k_is)
    (case l_of_int => k_is)
    (case c_of_int => k_is)
    (case k_of_int => k_is)
    (case a_check_modulus => k_is)
    (case l_check_modulus => k_is)
    (case c_check_modulus => k_is)
    (case k_check_modulus => k_is)
    (case a_power_row => k_is)
    (case l_power_row => k_is)
    (case c_power_row => k_is)
    (case k_power_row => k_is)
    (case a_power_rows => k_is)
    (case l_power_rows => k_is)
    (case c_power_rows => k_is)
    (case k_power_rows => k_is)
    (case a_power_by_rows => k_is)
    (case l_power_by_rows => k_is)
    (case c_power_by_rows => k_is)
    (case k_power_by_rows => k_is)
    (case a_number_by_rows => k_is)
    (case l_number_by_rows => k_is)
    (case c_number_by_rows => k_is)
    (case k_number_by_rows => k_is)
    (case a_remainder => k_is)
    (case l_remainder => k_is)
    (case c_remainder => k_is)
    (case k_remainder => k_is)
    (case a_power_remainder => k_is)
    (case l_power_remainder => k_is)
    (case c_power_remainder => k_is)
    (case k_power_remainder => k_is)
    (case a_powers_of_two => k_is)
    (case l_powers_of_two => k_is)
    (case c_powers_of_two => k_is)
    (case k_powers_of_two => k_is)
    (case a_law_cell => k_is)
    (case l_law_cell => k_is)
    (case c_law_cell => k_is)
    (case k_law_cell => k_is)
    (case a_law_numbers => k_is)
    (case l_law_numbers => k_is)
    (case c_law_numbers => k_is)
    (case k_law_numbers => k_is)
    (case a_law_plain => k_is)
    (case l_law_plain => k_is)
    (case c_law_plain => k_is)
    (case k_law_plain => k_is)
    (case a_law_cycle => k_is)
    (case l_law_cycle => k_is)
    (case c_law_cycle => k_is)
    (case k_law_cycle => k_is)
    (case a_law_refused => k_is)
    (case l_law_refused => k_is)
    (case c_law_refused => k_is)
    (case k_law_refused => k_is)
    (case a_law_agrees => k_is)
    (case l_law_agrees => k_is)
    (case c_law_agrees => k_is)
    (case k_law_agrees => k_is)
    (case a_law => k_is)
    (case l_law => k_is)
    (case c_law => k_is)
    (case k_law => k_is)
    (case x1_Missing => k_is)
    (case x2_Missing => k_is)
    (case x4_Missing => k_is)
    (case x5_Missing => k_is)
    (case y1_Missing => k_is)
    (case y2_Missing => k_is)
    (case y4_Missing => k_is)
    (case y5_Missing => k_is)
    (case y8_Missing => k_is)
    (case x1_NotAllowed => k_is)
    (case x2_NotAllowed => k_is)
    (case x4_NotAllowed => k_is)
    (case x5_NotAllowed => k_is)
    (case y1_NotAllowed => k_is)
    (case y2_NotAllowed => k_is)
    (case y4_NotAllowed => k_is)
    (case y5_NotAllowed => k_is)
    (case y8_NotAllowed => k_is)
    (case x1_ReckonError => k_is)
    (case x2_ReckonError => k_is)
    (case x4_ReckonError => k_is)
    (case x5_ReckonError => k_is)
    (case y1_ReckonError => k_is)
    (case y2_ReckonError => k_is)
    (case y4_ReckonError => k_is)
    (case y5_ReckonError => k_is)
    (case y8_ReckonError => k_is)
    (case x1_TooLarge => k_is)
    (case x2_TooLarge => k_is)
    (case x4_TooLarge => k_is)
    (case x5_TooLarge => k_is)
    (case y1_TooLarge => k_is)
    (case y2_TooLarge => k_is)
    (case y4_TooLarge => k_is)
    (case y5_TooLarge => k_is)
    (case y8_TooLarge => k_is)
    (case vV => k_is)
    (case i1_ReckonError => k_is)
    (case i2_ReckonError => k_is)
    (case i3_ReckonError => k_is)
    (case i4_ReckonError => k_is)
    (case i5_ReckonError => k_is)
    (case i6_ReckonError => k_is)
    (case g1_R => k_is)
    (case g2_R => k_is)
    (case g3_R => k_is)
    (case i1_NotAllowed => k_is)
    (case i2_NotAllowed => k_is)
    (case i3_NotAllowed => k_is)
    (case i4_NotAllowed => k_is)
    (case i5_NotAllowed => k_is)
    (case i6_NotAllowed => k_is)
    (case o1_NotAllowed => k_is)
    (case o2_NotAllowed => rfl)
    (case o3_NotAllowed => k_is)
    (case o4_NotAllowed => k_is)
    (case i1_TooLarge => k_is)
    (case i2_TooLarge => k_is)
    (case i3_TooLarge => k_is)
    (case i4_TooLarge => k_is)
    (case i5_TooLarge => k_is)
    (case i6_TooLarge => k_is)
    (case o1_TooLarge => k_is)
    (case o2_TooLarge => rfl)
    (case o3_TooLarge => k_is)
    (case o4_TooLarge => k_is)
    (case y6 => k_is)
    (case y7 => k_is)
    (case s_NotAllowed_NotAllowed => k_is)
    (case s_NotAllowed_ReckonError => k_is)
    (case s_NotAllowed_Missing => k_is)
    (case s_NotAllowed_TooLarge => k_is)
    (case z_ValueError => k_is)
    (case z_bool => k_is)
    (case z_int => k_is)
    (case z_isinstance => k_is)
    (case z_len => k_is)
    (case z_max => k_is)
    (case z_min => k_is)
    (case z_range => k_is)
    (case z_sum => k_is)
    (case z_tuple => k_is)
    (case w_FIRST_END => k_is)
    (case w_MAX_GIVEN_BITS => k_is)
    (case w_MAX_HEIGHT => k_is)
    (case w_MAX_MODULUS => k_is)
    (case w_MAX_SIZE => k_is)
    (case v1_FIRST_NUMBERS => k_is)
    (case v2_FIRST_NUMBERS => kernel_rfl)
