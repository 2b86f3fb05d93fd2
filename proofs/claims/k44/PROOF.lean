import PyProof.Rows.All
import Wide.All
import OpenK.AllK
import Wide.FinOn
import HandS.ForMost
import HandS.Evl
import HandS.Style
import HandS.Conv
import HandS.WideBits
import HandS.ForExc
import HandS.IsInst
import HandS.ExcIs
import HandS.Strs
import HandS.Deep
import KE.KExcIs
import HandS.Defaults
import HandS.ExcInit
import HandS.ClsMeth
import HandS.More
import HandS.Text
import PyProof.StrOps2
import HandS.Iter
import PyProof.Draws
import PyProof.EnumMake
import HandS.Flow
import KE.KRevSl
import KE.KStrOpen
import KE.KxWritten
import HandS.StrMore
import PySem.Challenge.RW_sandreckoner_k44_words
set_option Elab.async false
set_option linter.all false
set_option maxRecDepth 100000
set_option maxHeartbeats 4000000
set_option Elab.async false
set_option linter.all false
set_option maxRecDepth 100000
set_option maxHeartbeats 2000000
namespace Sk
open PySem L2 Evl

abbrev VP := V → Hp → Prop
/-- an expression that evaluates to something of R, the heap growing -/
def ER (te : TE) (σ : L2.St) (H : Hp) (R : VP) : Prop := ∀ H1, Ex H H1 → ∀ Q : VK, (∀ v H2, Ex H1 H2 → R v H2 → Q v H2) → te σ H1 Q
def EA (ta : TA) (σ : L2.St) (H : Hp) (R : List V → Hp → Prop) : Prop := ∀ H1, Ex H H1 → ∀ Q : List V → Hp → Prop, (∀ v H2, Ex H1 H2 → R v H2 → Q v H2) → ta σ H1 Q
/-- a call's promise: handed vs it gives something of R -/
def SR (sp : Sp) (vs : List V) (H : Hp) (R : VP) : Prop := ∀ (Q : VK) (E : XK), (∀ v H2, Ex H H2 → R v H2 → Q v H2) → sp vs H Q E
def Mono (R : VP) : Prop := ∀ v H H', Ex H H' → R v H → R v H'
def MonoL (R : List V → Hp → Prop) : Prop := ∀ v H H', Ex H H' → R v H → R v H'

section
variable {K : PySem.W.Frag} {σ : L2.St} {H H' : Hp} {te tl : TE} {ta tr : TA} {v : V} {R R' : VP} {D : Ends} {tz : TS} {i : Nat}
theorem ER.imp (h : ER te σ H R) (k : ∀ v H2, Ex H H2 → R v H2 → R' v H2) : ER te σ H R' := fun H1 e Q q => h H1 e Q fun v H2 e2 r => q v H2 e2 (k v H2 (e.trans e2) r)
theorem ER.mono (e : Ex H H') (h : ER te σ H R) : ER te σ H' R := fun H1 e1 Q q => h H1 (e.trans e1) Q q
theorem er_ev (h : Ev te σ H v) (hR : ∀ H1, Ex H H1 → R v H1) : ER te σ H R := fun H1 e Q q => h H1 e Q fun H2 e2 => q v H2 e2 (hR H2 (e.trans e2))
theorem er_is (h : Ev te σ H v) : ER te σ H (fun w _ => w = v) := er_ev h fun _ _ => rfl
theorem ev_er (h : ER te σ H (fun w _ => w = v)) : Ev te σ H v := fun H1 e Q q => h H1 e Q fun w H2 e2 r => by subst r; exact q H2 e2
theorem ev_of_er {w : V} (h : ER te σ H R) (k : ∀ v H2, Ex H H2 → R v H2 → v = w) : Ev te σ H w := ev_er (h.imp fun v H2 e r => k v H2 e r)
theorem er_var (h : σ[i]? = some (some v)) (hR : ∀ H1, Ex H H1 → R v H1) : ER (tVar i) σ H R := er_ev (ev_var h) hR
theorem ea_nil' : EA tNil σ H (fun vs _ => vs = []) := fun H1 _ Q q => q [] H1 (Ex.refl H1) rfl
theorem ea_cons' {R1 : VP} {R2 : List V → Hp → Prop} (h : ER te σ H R1) (m : Mono R1) (hr : EA tr σ H R2) : EA (tCons te tr) σ H (fun vs H2 => ∃ v r, vs = v :: r ∧ R1 v H2 ∧ R2 r H2) := fun H1 e Q q =>
  h H1 e _ fun v H2 e2 r1 => hr H2 (e.trans e2) _ fun r H3 e3 r2 => q _ H3 (e2.trans e3) ⟨v, r, rfl, m v H2 H3 e3 r1, r2⟩
theorem ea_imp {R1 R2 : List V → Hp → Prop} (h : EA ta σ H R1) (k : ∀ v H2, Ex H H2 → R1 v H2 → R2 v H2) : EA ta σ H R2 := fun H1 e Q q => h H1 e Q fun v H2 e2 r => q v H2 e2 (k v H2 (e.trans e2) r)
theorem ea_ev {vs : List V} (h : EvA ta σ H vs) : EA ta σ H (fun ws _ => ws = vs) := fun H1 e Q q => h H1 e Q fun H2 e2 => q vs H2 e2 rfl
theorem ea_one (h : ER te σ H R) (m : Mono R) : EA (tCons te tNil) σ H (fun vs H2 => ∃ v, vs = [v] ∧ R v H2) := ea_imp (ea_cons' h m ea_nil') fun vs H2 _ ⟨v, r, e1, r1, e2⟩ => ⟨v, by rw [e1, e2], r1⟩
theorem ea_two {te' : TE} (h : ER te σ H R) (m : Mono R) (h' : ER te' σ H R') (m' : Mono R') : EA (tCons te (tCons te' tNil)) σ H (fun vs H2 => ∃ v w, vs = [v, w] ∧ R v H2 ∧ R' w H2) :=
  ea_imp (ea_cons' h m (ea_one h' m')) fun vs H2 _ ⟨v, r, e1, r1, w, e2, r2⟩ => ⟨v, w, by rw [e1, e2], r1, r2⟩
theorem ea_three {te' te'' : TE} {R'' : VP} (h : ER te σ H R) (m : Mono R) (h' : ER te' σ H R') (m' : Mono R') (h'' : ER te'' σ H R'') (m'' : Mono R'') : EA (tCons te (tCons te' (tCons te'' tNil))) σ H (fun vs H2 => ∃ v w z, vs = [v, w, z] ∧ R v H2 ∧ R' w H2 ∧ R'' z H2) :=
  ea_imp (ea_cons' h m (ea_two h' m' h'' m'')) fun vs H2 _ ⟨v, r, e1, r1, w, z, e2, r2, r3⟩ => ⟨v, w, z, by rw [e1, e2], r1, r2, r3⟩
theorem er_call {sp : Sp} {E : XK} {RA : List V → Hp → Prop} (h : EA ta σ H RA) (k : ∀ vs H1, Ex H H1 → RA vs H1 → SR sp vs H1 R) : ER (tCall sp [] E ta) σ H R := fun H1 e Q q =>
  h H1 e _ fun vs H2 e2 r => by
    show sp (vs ++ []) H2 Q E
    rw [List.append_nil]
    exact k vs H2 (e.trans e2) r Q E fun v H3 e3 rv => q v H3 (e2.trans e3) rv
theorem er_callS {sp : Sp} {E : L2.St → XK} {RA : List V → Hp → Prop} (h : EA ta σ H RA) (k : ∀ vs H1, Ex H H1 → RA vs H1 → SR sp vs H1 R) : ER (tCallS sp E ta) σ H R := fun H1 e Q q =>
  h H1 e _ fun vs H2 e2 r => k vs H2 (e.trans e2) r Q (E σ) fun v H3 e3 rv => q v H3 (e2.trans e3) rv
/-- a tuple is made -/
theorem er_tup {RA : List V → Hp → Prop} (h : EA ta σ H RA) (m : MonoL RA) (hz : ∀ vs H2, RA vs H2 → vs.length ≤ 100000) : ER (tTup ta) σ H (fun v H2 => ∃ p vs, v = .ref p ∧ H2 p = some (.tup vs) ∧ RA vs H2) := fun H1 e Q q =>
  h H1 e _ fun vs H2 e2 r => ⟨sz_of (hz vs H2 r), fun p hp => q _ _ (e2.trans (Ex.new hp)) ⟨p, vs, rfl, upd_same, m vs H2 _ (Ex.new hp) r⟩⟩
theorem er_lst {RA : List V → Hp → Prop} (h : EA ta σ H RA) (m : MonoL RA) (hz : ∀ vs H2, RA vs H2 → vs.length ≤ 100000) : ER (tLst ta) σ H (fun v H2 => ∃ p vs, v = .ref p ∧ H p = none ∧ H2 p = some (.lst vs) ∧ RA vs H2) := fun H1 e Q q =>
  h H1 e _ fun vs H2 e2 r => ⟨sz_of (hz vs H2 r), fun p hp => q _ _ (e2.trans (Ex.new hp)) ⟨p, vs, rfl, fresh_back e (fresh_back e2 hp), upd_same, m vs H2 _ (Ex.new hp) r⟩⟩
/-- statements -/
theorem s_asgR (h : ER te σ H R) (k : ∀ v H1, Ex H H1 → R v H1 → D.nx (σ.set i (some v)) H1) : tAsg te (gName i) D σ H := h H (Ex.refl H) _ fun v H1 e r => k v H1 e r
theorem q_asgR (h : ER te σ H R) (k : ∀ v H1, Ex H H1 → R v H1 → tz D (σ.set i (some v)) H1) : tSeq (tAsg te (gName i)) tz D σ H := s_asgR (D := { D with nx := tz D }) h k
theorem s_retR (h : ER te σ H R) (k : ∀ v H1, Ex H H1 → R v H1 → D.rt v H1) : tRet te D σ H := h H (Ex.refl H) _ fun v H1 e r => k v H1 e r
theorem s_dropR (h : ER te σ H R) (k : ∀ v H1, Ex H H1 → R v H1 → D.nx σ H1) : tDrop te D σ H := h H (Ex.refl H) _ fun v H1 e r => k v H1 e r
theorem q_dropR (h : ER te σ H R) (k : ∀ v H1, Ex H H1 → R v H1 → tz D σ H1) : tSeq (tDrop te) tz D σ H := s_dropR (D := { D with nx := tz D }) h k
/-- xs.append(e), e of R -/
theorem s_appR {l : Addr} {xs : List V} (hl : H l = some (.lst xs)) (hv : Ev tl σ H (.ref l)) (h : ER te σ H R) (hz : xs.length < 100000) (k : ∀ v H1, Ex H H1 → R v H1 → D.nx σ (upd H1 l (.lst (xs ++ [v])))) :
    tDrop (tBM K "list" rAppend tl (tCons te tNil)) D σ H := hv H (Ex.refl H) _ fun H1 e1 =>
  ⟨Or.inl ⟨rfl, xs, sq_of (e1 l _ hl)⟩, h H1 e1 _ fun v H2 e2 r => ⟨l, xs, v, rfl, rfl, e2 l _ (e1 l _ hl), sz_lt hz, k v H2 (e1.trans e2) r⟩⟩
theorem q_appR {l : Addr} {xs : List V} (hl : H l = some (.lst xs)) (hv : Ev tl σ H (.ref l)) (h : ER te σ H R) (hz : xs.length < 100000) (k : ∀ v H1, Ex H H1 → R v H1 → tz D σ (upd H1 l (.lst (xs ++ [v])))) :
    tSeq (tDrop (tBM K "list" rAppend tl (tCons te tNil))) tz D σ H := s_appR (D := { D with nx := tz D }) hl hv h hz k
/-- (u, w) unpacked into two names -/
theorem g_pair {a : Addr} {u w : V} {i j : Nat} {Q : L2.St → Hp → Prop} (h : SqT K H a [u, w]) (q : Q ((σ.set i (some u)).set j (some w)) H) : gTup K 2 (gCons (gName i) (gCons (gName j) gNil)) (.ref a) σ H Q :=
  ⟨a, [u, w], rfl, h, rfl, u, [w], rfl, w, [], rfl, rfl, q⟩
theorem g_trip {a : Addr} {u w z : V} {i j l : Nat} {Q : L2.St → Hp → Prop} (h : SqT K H a [u, w, z]) (q : Q (((σ.set i (some u)).set j (some w)).set l (some z)) H) : gTup K 3 (gCons (gName i) (gCons (gName j) (gCons (gName l) gNil))) (.ref a) σ H Q :=
  ⟨a, [u, w, z], rfl, h, rfl, u, [w, z], rfl, w, [z], rfl, z, [], rfl, rfl, q⟩
/-- unpacking as a statement: a, b = e -/
theorem q_unpack2 {j : Nat} (h : ER te σ H R) (hR : ∀ v H1, Ex H H1 → R v H1 → ∃ a x y, v = .ref a ∧ SqT K H1 a [x, y] ∧ tz D ((σ.set i (some x)).set j (some y)) H1) :
    tSeq (tAsg te (gTup K 2 (gCons (gName i) (gCons (gName j) gNil)))) tz D σ H := h H (Ex.refl H) _ fun v H1 e r => by
  obtain ⟨a, x, y, rfl, hs, q⟩ := hR v H1 e r
  exact g_pair (Q := fun σ' H' => tz D σ' H') hs q
/-! ### comprehensions -/
theorem len_snoc {α : Type} {P : Nat → α → Prop} {ys : List α} {y : α} (h : ∀ j z, ys[j]? = some z → P j z) (hy : P ys.length y) : ∀ j z, (ys ++ [y])[j]? = some z → P j z := fun j z hz => by
  rcases Nat.lt_trichotomy j ys.length with hj | hj | hj
  · rw [List.getElem?_append_left hj] at hz; exact h j z hz
  · subst hj; rw [List.getElem?_append_right (Nat.le_refl _), Nat.sub_self] at hz; cases hz; exact hy
  · rw [List.getElem?_append_right (Nat.le_of_lt hj)] at hz
    have : j - ys.length ≠ 0 := by omega
    cases hq : j - ys.length with
    | zero => exact absurd hq this
    | succ n => rw [hq] at hz; cases hz
/-- the tuples (and what is frozen) stay -/
def TEx (H H' : Hp) : Prop := ∀ a o, H a = some o → (match o with | .tup _ => True | .frz _ _ => True | _ => False) → H' a = some o
theorem Ex.t (e : Ex H H') : TEx H H' := fun a o h _ => e a o h
theorem TEx.refl (H : Hp) : TEx H H := fun _ _ h _ => h
theorem TEx.trans {H1 H2 H3 : Hp} (a : TEx H1 H2) (b : TEx H2 H3) : TEx H1 H3 := fun x o h c => b x o (a x o h c) c
theorem TEx.put {l : Addr} {xs ys : List V} (h : H l = some (.lst xs)) : TEx H (upd H l (.lst ys)) := fun a o e c => by
  by_cases hb : a = l
  · subst hb; rw [h] at e; cases e; exact c.elim
  · rw [upd_ne hb]; exact e
def MonoT (R : VP) : Prop := ∀ v H H', TEx H H' → R v H → R v H'
theorem MonoT.mono (m : MonoT R) : Mono R := fun v H H' e r => m v H H' (Ex.t e) r
theorem tex_sqt {a : Addr} {xs : List V} (e : TEx H H') (h : SqT K H a xs) : SqT K H' a xs := by
  rcases h with (h | ⟨o, h⟩) | h
  · exact .inl (.inl (e _ _ h trivial))
  · exact .inl (.inr ⟨o, e _ _ h trivial⟩)
  · exact .inr h
/-- what a comprehension has made behind i turns -/
def Made (H : Hp) (Dl : Addr) (Ri : Nat → VP) (i : Nat) (H' : Hp) : Prop := H Dl = none ∧ Ex H H' ∧ ∃ ys : List V, H' Dl = some (.lst ys) ∧ ys.length = i ∧ ∀ j y, ys[j]? = some y → Ri j y H'
theorem Made.turn {Dl : Addr} {Ri : Nat → VP} {i : Nat} {H2 : Hp} {y : V} (m : ∀ i, MonoT (Ri i)) (M : Made H Dl Ri i H') (hi : i < 100000) (e : Ex H' H2) (r : Ri i y H2) :
    ∃ acc, H2 Dl = some (.lst acc) ∧ acc.length < sizeLine ∧ Made H Dl Ri (i + 1) (upd H2 Dl (.lst (acc ++ [y]))) := by
  obtain ⟨h1, h2, ys, h3, h4, h5⟩ := M
  have t : TEx H2 (upd H2 Dl (.lst (ys ++ [y]))) := TEx.put (e Dl _ h3)
  refine ⟨ys, e Dl _ h3, sz_lt (by omega), h1, Ex.mut (h2.trans e) h1, ys ++ [y], upd_same, by rw [List.length_append, h4]; rfl, ?_⟩
  refine len_snoc (fun j z hz => m j z _ _ ((Ex.t e).trans t) (h5 j z hz)) ?_
  rw [h4]
  exact m i y _ _ t r
/-- the list that a comprehension gives: H the heap ahead -/
def LcR (S : List V → Hp → Prop) (R : List V → Nat → VP) (H : Hp) : VP := fun v H2 => ∃ p xs ys, v = .ref p ∧ H p = none ∧ H2 p = some (.lst ys) ∧ S xs H2 ∧ ys.length = xs.length ∧ ∀ (j : Nat) (y : V), ys[j]? = some y → R xs j y H2
theorem er_lcL {g : TG} {vs : List Nat} {S : List V → Hp → Prop} {R : List V → Nat → VP} (hsrc : ER tl σ H (fun v H2 => ∃ a xs, v = .ref a ∧ SqL K H2 a xs ∧ S xs H2)) (mS : MonoL S) (hz : ∀ xs H2, S xs H2 → xs.length < 100000) (m : ∀ xs i, MonoT (R xs i))
    (hb : ∀ xs i x H1, xs[i]? = some x → Ex H H1 → S xs H1 → ∀ Qk : VK, (∀ v H2, Ex H1 H2 → R xs i v H2 → Qk v H2) → g x (wipe σ vs) H1 fun σ2 H2 => wipe σ2 vs = wipe σ vs ∧ te σ2 H2 Qk) :
    ER (tLc (iList K tl) g tYes te vs) σ H (LcR S R H) := fun H0 e0 Q q => hsrc H0 e0 _ fun v H1 e1 ⟨a, xs, hv, ha, hS⟩ => ⟨a, hv, ⟨xs, ha⟩, fun Dl hD =>
  lc_list (xs := xs) (Made H1 Dl (R xs)) ⟨hD, Ex.new hD, [], upd_same, rfl, fun j y h => by simp at h⟩ (fun i H' _ p => ex_l p.2.1 ha)
    (fun i x H' hi M => hb xs i x H' hi ((e0.trans e1).trans M.2.1) (mS xs _ _ M.2.1 hS) _ fun y H2 e2 r => M.turn (m xs) (by have := (List.getElem?_eq_some_iff.mp hi).1; have := hz xs _ hS; omega) e2 r)
    (fun H' M => by
      obtain ⟨h1, h2, ys, h3, h4, h5⟩ := M
      exact q _ H' (e1.trans h2) ⟨Dl, xs, ys, rfl, fresh_back (e0.trans e1) h1, h3, mS xs _ _ h2 hS, h4, h5⟩)⟩
theorem er_lcT {g : TG} {vs : List Nat} {S : List V → Hp → Prop} {R : List V → Nat → VP} (hsrc : ER tl σ H (fun v H2 => ∃ a xs, v = .ref a ∧ SqT K H2 a xs ∧ S xs H2)) (mS : MonoL S) (hz : ∀ xs H2, S xs H2 → xs.length < 100000) (m : ∀ xs i, MonoT (R xs i))
    (hb : ∀ xs i x H1, xs[i]? = some x → Ex H H1 → S xs H1 → ∀ Qk : VK, (∀ v H2, Ex H1 H2 → R xs i v H2 → Qk v H2) → g x (wipe σ vs) H1 fun σ2 H2 => wipe σ2 vs = wipe σ vs ∧ te σ2 H2 Qk) :
    ER (tLc (iTup K tl) g tYes te vs) σ H (LcR S R H) := fun H0 e0 Q q => hsrc H0 e0 _ fun v H1 e1 ⟨a, xs, hv, ha, hS⟩ => ⟨a, hv, ⟨xs, ha⟩, fun Dl hD =>
  lc_tup (xs := xs) (Made H1 Dl (R xs)) ⟨hD, Ex.new hD, [], upd_same, rfl, fun j y h => by simp at h⟩ (fun i H' _ p => ex_t p.2.1 ha)
    (fun i x H' hi M => hb xs i x H' hi ((e0.trans e1).trans M.2.1) (mS xs _ _ M.2.1 hS) _ fun y H2 e2 r => M.turn (m xs) (by have := (List.getElem?_eq_some_iff.mp hi).1; have := hz xs _ hS; omega) e2 r)
    (fun H' M => by
      obtain ⟨h1, h2, ys, h3, h4, h5⟩ := M
      exact q _ H' (e1.trans h2) ⟨Dl, xs, ys, rfl, fresh_back (e0.trans e1) h1, h3, mS xs _ _ h2 hS, h4, h5⟩)⟩
end
end Sk

set_option Elab.async false
set_option linter.all false
set_option maxRecDepth 100000
set_option maxHeartbeats 2000000
namespace Sk
open PySem L2 Evl
def xAdd : R2 := rI0 fun i j => .int (i + j)
def xSub : R2 := rI0 fun i j => .int (i - j)
def xMul : R2 := rI CMul fun i j => .int (i * j)
def xMulX : R2 := rI CMulX fun i j => .int (i * j)
def xMod : R2 := rI (fun _ j => 0 < j) fun i j => .int (i % j)
def xFdiv : R2 := rI CDiv fun i j => .int (i / j)
def xPow : R2 := rI CPow fun i j => .int (i ^ j.toNat)
def xShl : R2 := rI CPow fun i j => .int (i * 2 ^ j.toNat)
def xShlW : R2 := rI CShl fun i j => .int (i * 2 ^ j.toNat)
def xShr : R2 := rI (fun _ j => 0 ≤ j) fun i j => .int (i / 2 ^ j.toNat)
def xAndM : R2 := fun x y H Q => ∃ (i : Int) (k : Nat), x = .int i ∧ y = .int (2 ^ k - 1) ∧ Q (.int (i % 2 ^ k)) H
def xLt : R2 := rI0 fun i j => .bl (decide (i < j))
def xLe : R2 := rI0 fun i j => .bl (decide (i ≤ j))
def xGt : R2 := rI0 fun i j => .bl (decide (j < i))
def xGe : R2 := rI0 fun i j => .bl (decide (j ≤ i))
def xIsN : R2 := fun x y H Q => y = .non ∧ Q (.bl (decide (x = .non))) H
def xNotN : R2 := fun x y H Q => y = .non ∧ Q (.bl (!decide (x = .non))) H
def xNeg : V → Hp → VK → Prop := rU fun i => .int (-i)
def xHalf : TIp := fun x y H Q => ∃ i : Int, x = .int i ∧ y = .int 1 ∧ Q (.int (i / 2)) H
def xInt1 : List V → Hp → VK → Prop := fun xs H Q => (∃ i, xs = [.int i] ∧ Q (.int i) H) ∨ ∃ k, xs = [.bl k] ∧ Q (.int (if k then 1 else 0)) H
def xMax2 : List V → Hp → VK → Prop := fun xs H Q => ∃ i j, xs = [.int i, .int j] ∧ Q (.int (if j > i then j else i)) H
def xMin2 : List V → Hp → VK → Prop := fun xs H Q => ∃ i j, xs = [.int i, .int j] ∧ Q (.int (if j < i then j else i)) H
def xAbs : List V → Hp → VK → Prop := fun xs H Q => ∃ i, xs = [.int i] ∧ Q (.int (if i < 0 then -i else i)) H
def tTruK (K : PySem.W.Frag) (ta : TE) : TT := fun σ H Q => ta σ H fun x H' => ∃ k, TruV K x H' k ∧ Q k H'

theorem ip_half {X : Cx} : PIp X .RShift xHalf := fun pins s σ H x y v u Q I r1 r2 h => iop_halfI pins s σ H x y v u Q I r1 r2 h
theorem hu64 {A : Around} {k : Nat} (hr : Room k A) : A.units + 64 < cLine := by have := hr.un; omega
/-- a def of the module, where it stands -/
structure DefAt (K : PySem.W.Frag) (mg : Str → Option Value) (x : Str) (st : Stmt) (ps : List Str) (f : Addr) (fd : FuncData) : Prop where
  fn : Fun K x x st f fd
  m : mg x = some (.ref f)
  b : Binds K fd ps []
/-- an own error class, where it stands -/
structure ClsAt (K : PySem.W.Frag) (mg : Str → Option Value) (x : Str) (C : Addr) : Prop where
  m : mg x = some (.ref C)
  k : PySem.W.keepIn K (.ref C) = true
  sb : PySem.W.subIn K (.ref C) (.type "BaseException") = some true
  ty : PySem.W.typeIn K (.ref C) = some (.type "type")
  e : ExcC K C
/-- what of the errors' own words is told -/
def nameIn (K : PySem.W.Frag) (C : Addr) : Option Str := (PySem.W.clsIn K C).map (·.name)
def wordOf (x : Str) : Str := if x = "NotAllowed" then "refused" else if x = "BadForm" then "form" else if x = "BadRange" then "range" else if x = "TooLarge" then "large" else if x = "Missing" then "missing" else if x = "Ring" then "ring" else "steps"
/-- what a raised error carries -/
def ErrAt (K : PySem.W.Frag) (C d : Addr) (H : Hp) : Prop := ∃ x, nameIn K C = some x ∧ H d = some (.xd [("word", .str (wordOf x))])
theorem ErrAt.ex {K : PySem.W.Frag} {C d : Addr} {H H' : Hp} (h : ErrAt K C d H) (e : Ex H H') : ErrAt K C d H' := let ⟨x, h1, h2⟩ := h; ⟨x, h1, e _ _ h2⟩
/-- raise X('..') -/
def tRaise (K : PySem.W.Frag) (E : XK) (C : Addr) : TS := fun _ _ H => ∀ H', Ex H H' → ∀ d, ErrAt K C d H' → E (.ref C) (some d) H'
/-- isinstance(e, C), isinstance(e, (C1, C2)), e the error that the suite holds, with its dict -/
def Cau (D : Addr) (cls : Value) (d : Option Addr) (H : Hp) : Prop := cls = .ref D ∧ ∃ dd fs, d = some dd ∧ H dd = some (.xd fs)
theorem ErrAt.cau {K : PySem.W.Frag} {C d : Addr} {H : Hp} (h : ErrAt K C d H) : Cau C (.ref C) (some d) H := let ⟨_, _, h2⟩ := h; ⟨rfl, d, _, rfl, h2⟩
def rIsEc (K : PySem.W.Frag) (D a : Addr) (cls : Value) (d : Option Addr) : List V → Hp → VK → Prop := fun xs H Q => Cau D cls d H ∧ rIsE K D a xs H Q
def rIsET (K : PySem.W.Frag) (D a : Addr) : List V → Hp → VK → Prop := fun xs H Q => ∃ (tp : Addr) (cs : List V) (us : List Value) (b : Bool), xs = [.ref a, .ref tp] ∧ H tp = some (.tup cs) ∧ Paired ClsV cs us ∧ PySem.W.kitAny K (.ref D) us = some b ∧ Q (.bl b) H
def rIsETc (K : PySem.W.Frag) (D a : Addr) (cls : Value) (d : Option Addr) : List V → Hp → VK → Prop := fun xs H Q => Cau D cls d H ∧ rIsET K D a xs H Q
theorem cau_at {X : Cx} {a D : Addr} {oe : Obj} {pn pins : List (Addr × Obj)} {cls : Value} {d : Option Addr} {σ : L2.St} {H : Hp} {s : Shared} (hz : Zc cls d oe) (hf : ∃ vs, oe.data = .fields vs) (I : Inv (X.suite a ((a, oe) :: pn)) pins σ H s) (h : Cau D cls d H) :
    ∃ od, PySem.W.InstAt s.heap a oe D (some od) := by
  obtain ⟨rfl, dd, fs, rfl, hd⟩ := h
  obtain ⟨mA, hns, -⟩ := (show ObjOk X.prog X.w H s.heap dd (.xd fs) from I.hok dd _ hd)
  obtain ⟨od, ho, -⟩ := lookIn_ns hns
  obtain ⟨vs, hv⟩ := hf
  exact ⟨od, (I.pin (a, oe) (List.mem_append.mpr (.inl List.mem_cons_self))).1, hz.1, (by unfold PySem.W.notCls; rw [hv] <;> rfl), (by rw [hz.2]; exact ho)⟩
theorem cau_kit {K : PySem.W.Frag} {D a : Addr} {oe od : Obj} (C : ExcC K D) : PySem.W.KitX K (.ref a) (.ref D) (fun h => PySem.W.InstAt h a oe D (some od)) :=
  PySem.W.kitx_exc (by obtain ⟨cd, hc, _⟩ := PySem.W.any_some C.hd; rw [hc]; rfl) C.hg C.hk C.hs C.ha C.hn C.ht C.hm
theorem call_isEc {X : Cx} {a D : Addr} {oe : Obj} {pn : List (Addr × Obj)} {cls : Value} {d : Option Addr} (C : ExcC X.K D) (hz : Zc cls d oe) (hf : ∃ vs, oe.data = .fields vs) : CallR (X.suite a ((a, oe) :: pn)) (.builtin "isinstance") (rIsEc X.K D a cls d) := by
  intro pins s σ H xs us Q I r h
  obtain ⟨hc, c, cv, b, rfl, hcv, e, q⟩ := h
  obtain ⟨u1, u2, rfl, r1, r2⟩ := vals2 r
  cases (show u1 = Value.ref a from r1)
  cases hcv _ r2
  obtain ⟨od, J⟩ := cau_at hz hf I hc
  exact PySem.W.kia_one (cau_kit C) I.kIn J e (fun z => nomatch z) fun tk => ⟨.bl b, H, I.kept (t' := tk) fun _ _ z => z, rfl, q⟩
theorem call_isETc {X : Cx} {a D : Addr} {oe : Obj} {pn : List (Addr × Obj)} {cls : Value} {d : Option Addr} (C : ExcC X.K D) (hz : Zc cls d oe) (hf : ∃ vs, oe.data = .fields vs) : CallR (X.suite a ((a, oe) :: pn)) (.builtin "isinstance") (rIsETc X.K D a cls d) := by
  intro pins s σ H xs us Q I r h
  obtain ⟨hc, tp, cs, ws, b, rfl, hT, k, e, q⟩ := h
  obtain ⟨u1, u2, rfl, r1, r2⟩ := vals2 r
  cases (show u2 = Value.ref tp from r2)
  cases (show u1 = Value.ref a from r1)
  obtain ⟨od, J⟩ := cau_at hz hf I hc
  obtain ⟨_, its, rv, o, h1, h2, n, h3⟩ := (show ObjOk X.prog X.w H s.heap tp (.tup cs) from I.hok tp _ hT)
  have e3 := ClsV.all k rv
  subst e3
  obtain ⟨oc, od, dt, sl⟩ := o
  simp only at h2 h3
  subst h2 h3
  exact PySem.W.kia_tup (cau_kit C) I.kIn J h1 e (fun z => nomatch z) fun tk => ⟨.bl b, H, I.kept (t' := tk) fun _ _ z => z, rfl, q⟩

/-! ### values of operations -/
section
variable {K : PySem.W.Frag} {σ : L2.St} {H H' : Hp} {ta tb te : TE} {i j : Int} {v : V} {t : TT} {x y : V} {D : Ends} {tz tu : TS}
theorem ev_add (ha : Ev ta σ H (.int i)) (hb : Ev tb σ H (.int j)) : Ev (tOp xAdd ta tb) σ H (.int (i + j)) := ev_op ha hb rv_I0
theorem ev_sub (ha : Ev ta σ H (.int i)) (hb : Ev tb σ H (.int j)) : Ev (tOp xSub ta tb) σ H (.int (i - j)) := ev_op ha hb rv_I0
theorem ev_mul (ha : Ev ta σ H (.int i)) (hb : Ev tb σ H (.int j)) (c : CMul i j) : Ev (tOp xMul ta tb) σ H (.int (i * j)) := ev_op ha hb (rv_I c)
theorem ev_mulX (ha : Ev ta σ H (.int i)) (hb : Ev tb σ H (.int j)) (c : CMulX i j) : Ev (tOp xMulX ta tb) σ H (.int (i * j)) := ev_op ha hb (rv_I c)
theorem ev_mod (ha : Ev ta σ H (.int i)) (hb : Ev tb σ H (.int j)) (c : 0 < j) : Ev (tOp xMod ta tb) σ H (.int (i % j)) := ev_op ha hb (rv_I c)
theorem ev_fdiv (ha : Ev ta σ H (.int i)) (hb : Ev tb σ H (.int j)) (c : CDiv i j) : Ev (tOp xFdiv ta tb) σ H (.int (i / j)) := ev_op ha hb (rv_I c)
theorem ev_pow (ha : Ev ta σ H (.int i)) (hb : Ev tb σ H (.int j)) (c : CPow i j) : Ev (tOp xPow ta tb) σ H (.int (i ^ j.toNat)) := ev_op ha hb (rv_I c)
theorem ev_shl (ha : Ev ta σ H (.int i)) (hb : Ev tb σ H (.int j)) (c : CPow i j) : Ev (tOp xShl ta tb) σ H (.int (i * 2 ^ j.toNat)) := ev_op ha hb (rv_I c)
theorem ev_andM {k : Nat} (ha : Ev ta σ H (.int i)) (hb : Ev tb σ H (.int (2 ^ k - 1))) : Ev (tOp xAndM ta tb) σ H (.int (i % 2 ^ k)) := ev_op ha hb fun H1 _ Q q => ⟨i, k, rfl, rfl, q H1 (Ex.refl H1)⟩
theorem ev_lt (ha : Ev ta σ H (.int i)) (hb : Ev tb σ H (.int j)) : Ev (tOp xLt ta tb) σ H (.bl (decide (i < j))) := ev_op ha hb rv_I0
theorem ev_le (ha : Ev ta σ H (.int i)) (hb : Ev tb σ H (.int j)) : Ev (tOp xLe ta tb) σ H (.bl (decide (i ≤ j))) := ev_op ha hb rv_I0
theorem ev_gt (ha : Ev ta σ H (.int i)) (hb : Ev tb σ H (.int j)) : Ev (tOp xGt ta tb) σ H (.bl (decide (j < i))) := ev_op ha hb rv_I0
theorem ev_ge (ha : Ev ta σ H (.int i)) (hb : Ev tb σ H (.int j)) : Ev (tOp xGe ta tb) σ H (.bl (decide (j ≤ i))) := ev_op ha hb rv_I0
theorem ev_eq (ha : Ev ta σ H x) (hb : Ev tb σ H y) (h : scal x y = true) : Ev (tOp rEq ta tb) σ H (.bl (decide (x = y))) := ev_op ha hb (rv_eq h)
theorem ev_ne (ha : Ev ta σ H x) (hb : Ev tb σ H y) (h : scal x y = true) : Ev (tOp rNe ta tb) σ H (.bl (!decide (x = y))) := ev_op ha hb (rv_ne h)
theorem ev_isN (ha : Ev ta σ H x) : Ev (tOp xIsN ta (tC .non)) σ H (.bl (decide (x = .non))) := ev_op ha ev_c fun H1 _ Q q => ⟨rfl, q H1 (Ex.refl H1)⟩
theorem ev_notN (ha : Ev ta σ H x) : Ev (tOp xNotN ta (tC .non)) σ H (.bl (!decide (x = .non))) := ev_op ha ev_c fun H1 _ Q q => ⟨rfl, q H1 (Ex.refl H1)⟩
theorem ev_neg (ha : Ev ta σ H (.int i)) : Ev (tUn xNeg ta) σ H (.int (-i)) := ev_un ha ru_neg
theorem ev_int1 (ha : Ev ta σ H (.int i)) : Ev (tCB xInt1 (tCons ta tNil)) σ H (.int i) := ev_cb (ea_cons ha ea_nil) fun H1 _ Q q => .inl ⟨i, rfl, q H1 (Ex.refl H1)⟩
theorem ev_max (ha : Ev ta σ H (.int i)) (hb : Ev tb σ H (.int j)) : Ev (tCB xMax2 (tCons ta (tCons tb tNil))) σ H (.int (if j > i then j else i)) := ev_cb (ea_cons ha (ea_cons hb ea_nil)) fun H1 _ Q q => ⟨i, j, rfl, q H1 (Ex.refl H1)⟩
theorem ev_min (ha : Ev ta σ H (.int i)) (hb : Ev tb σ H (.int j)) : Ev (tCB xMin2 (tCons ta (tCons tb tNil))) σ H (.int (if j < i then j else i)) := ev_cb (ea_cons ha (ea_cons hb ea_nil)) fun H1 _ Q q => ⟨i, j, rfl, q H1 (Ex.refl H1)⟩
theorem ev_abs (ha : Ev ta σ H (.int i)) : Ev (tCB xAbs (tCons ta tNil)) σ H (.int (if i < 0 then -i else i)) := ev_cb (ea_cons ha ea_nil) fun H1 _ Q q => ⟨i, rfl, q H1 (Ex.refl H1)⟩
theorem ev_bits (ha : Ev ta σ H (.int i)) : Ev (tBits ta) σ H (.int ((Builtin.Int.intBits i : Nat) : Int)) := fun H1 e Q q => ha H1 e _ fun H2 e2 => ⟨i, rfl, q H2 e2⟩
theorem ev_at {a : Addr} {xs : List V} {k : Int} (ho : Ev ta σ H (.ref a)) (hi : Ev tb σ H (.int k)) (hs : SqL K H a xs) (ha : atI xs k = some v) : Ev (tOp (rIxL K) ta tb) σ H v := ev_op ho hi (rv_ixL hs ha)
theorem ev_atT {a : Addr} {xs : List V} {k : Int} (ho : Ev ta σ H (.ref a)) (hi : Ev tb σ H (.int k)) (hs : SqT K H a xs) (ha : atI xs k = some v) : Ev (tOp (rIxT K) ta tb) σ H v := ev_op ho hi (rv_ixT hs ha)
theorem ev_lenL {a : Addr} {xs : List V} (ho : Ev ta σ H (.ref a)) (hs : SqL K H a xs) : Ev (tCB (rLenS K) (tCons ta tNil)) σ H (.int (xs.length : Int)) := ev_len ho hs
theorem ev_lenT {a : Addr} {xs : List V} (ho : Ev ta σ H (.ref a)) (hs : SqT K H a xs) : Ev (tCB (rLenS K) (tCons ta tNil)) σ H (.int (xs.length : Int)) := ev_cb (ea_cons ho ea_nil) fun H1 e Q q => ⟨a, xs, rfl, .inr (ex_t e hs), q H1 (Ex.refl H1)⟩
theorem et_truI (ha : Ev ta σ H (.int i)) : EvT (tTruK K ta) σ H (i != 0) := fun H1 e Q q => ha H1 e _ fun H2 e2 => ⟨_, rfl, q H2 e2⟩
theorem et_truL {a : Addr} {xs : List V} (ha : Ev ta σ H (.ref a)) (hs : SqL K H a xs) : EvT (tTruK K ta) σ H (!xs.isEmpty) := fun H1 e Q q => ha H1 e _ fun H2 e2 => ⟨_, .inl ⟨xs, ex_l (e.trans e2) hs, rfl⟩, q H2 e2⟩
theorem et_truT {a : Addr} {xs : List V} (ha : Ev ta σ H (.ref a)) (hs : SqT K H a xs) : EvT (tTruK K ta) σ H (!xs.isEmpty) := fun H1 e Q q => ha H1 e _ fun H2 e2 => ⟨_, .inr (.inl ⟨xs, ex_t (e.trans e2) hs, rfl⟩), q H2 e2⟩
theorem q_half {k : Nat} (hx : σ[k]? = some (some (.int i))) (n : tz D (σ.set k (some (.int (i / 2)))) H) : tSeq (tAug k (tC (.int 1)) xHalf) tz D σ H := ⟨.int i, hx, i, rfl, rfl, n⟩
end
/-! ### in, index: data of any depth in a tuple -/
theorem hu150 {A : Around} {k : Nat} (hr : Room k A) : A.units + 150 < cLine := by have := hr.un; omega
def rInN (K : PySem.W.Frag) : R2 := fun x y H Q => ∃ d ds, Dp K H x d ∧ Dp K H y (.tuple ds) ∧ d.canLay0 = true ∧ PyData.canLayAll0 ds = true ∧ PyData.depthAll ds ≤ 100 ∧ Q (.bl (ds.any fun z => PyData.eqv z d)) H
theorem op_inN {X : Cx} (hu : X.A.units + 150 < cLine) : OpR X (compareOp .In) (rInN X.K) := fun pins s σ H x y v u Q I rx ry ⟨d, ds, hd, he, sd, se, hz, q⟩ => by
  obtain ⟨as, r1⟩ := Dp.reads I d x v hd rx
  obtain ⟨bs, r2⟩ := Dp.reads I (.tuple ds) y u he ry
  exact SeqAt.in_tuple_reads r2 r1 se sd (by have := Nat.min_le_left (PyData.depthAll ds) d.depth; omega) ⟨.bl _, H, I, rfl, q⟩
def rIndexN (K : PySem.W.Frag) : V → List V → Hp → VK → Prop := fun x xs H Q => ∃ (a : Addr) (y : V) (d : PyData) (ds : List PyData) (j : Nat) (z : PyData), x = V.ref a ∧ xs = [y] ∧ Dp K H (V.ref a) (.tuple ds) ∧ Dp K H y d ∧
  PyData.canLayAll0 ds = true ∧ d.canLay0 = true ∧ PyData.depthAll ds ≤ 100 ∧ ds[j]? = some z ∧ PyData.eqv z d = true ∧ (∀ (m : Nat) (z' : PyData), m < j → ds[m]? = some z' → PyData.eqv z' d = false) ∧ Q (.int (j : Nat)) H
theorem mt_indexN {X : Cx} (hu : X.A.units + 150 < cLine) : MtR X "tuple.index" (rIndexN X.K) := by
  intro pins s σ H x xs v us Q I rx rxs h
  obtain ⟨a, y, d, ds, j, z, rfl, rfl, hl, hy, hxs, sd, hz0, hz, hzj, hno, q⟩ := h
  cases rx
  cases rxs with
  | cons ry rt =>
    rename_i uy ut
    cases rt
    obtain ⟨bs, r1⟩ := Dp.reads I d y uy hy ry
    have hroom : X.A.units + 1 + min (PyData.depthAll ds) d.depth < cLine := by have := Nat.min_le_left (PyData.depthAll ds) d.depth; omega
    cases hl with
    | tup hs ha =>
      obtain ⟨its, rv, pl, hlen⟩ := I.tuple hs
      obtain ⟨⟨cls, dd, data, sls⟩, ho, hc, n, hdt⟩ := pl
      simp only at hc hdt
      subst hc hdt
      obtain ⟨as, h4⟩ := Dp.readsAll I ds _ its ha rv
      have hn : its.length = ds.length := SeqAt.ReadsAll.length ds its as h4
      have hmap : its.map (SeqAt.readOf s.heap) = ds := SeqAt.readsAll_map ds its as hxs h4
      obtain ⟨hjd, _⟩ := List.getElem?_eq_some_iff.mp hz
      have hjl : j < its.length := by omega
      have hj : j < its.toArray.size := by simpa using hjl
      have at_ : ∀ (m : Nat) (hm : m < its.toArray.size) (z' : PyData), ds[m]? = some z' → SeqAt.readOf s.heap its.toArray[m] = z' := by
        intro m hm z' hz'
        have hml : m < its.length := by simpa using hm
        rw [← hmap, List.getElem?_map, List.getElem?_eq_getElem hml] at hz'
        have e1 : SeqAt.readOf s.heap its[m] = z' := Option.some.inj (show some (SeqAt.readOf s.heap its[m]) = some z' from hz')
        simpa using e1
      refine call_meets PySem.F.slot_tuple_index ⟨_, ho, rfl⟩ PySem.F.entry_tuple_index (PySem.F.args_tuple_index_2 _ _)
        (TI.tuple_indexAt a its.toArray n dd sls uy (fun u => PyData.eqv (SeqAt.readOf s.heap u) d) j hj ?_ ?_) ⟨ho, SeqAt.items_eqAt (vs := its.toArray) (show ReadsAll s.heap its.toArray.toList ds as from h4) r1 hxs sd hroom, ?_⟩
      · show PyData.eqv (SeqAt.readOf s.heap its.toArray[j]) d = true
        rw [at_ j hj z hz]
        exact hzj
      · intro m hm hmj
        have hmd : m < ds.length := by omega
        have hz' : ds[m]? = some ds[m] := List.getElem?_eq_getElem hmd
        show PyData.eqv (SeqAt.readOf s.heap its.toArray[m]) d = false
        rw [at_ m hm _ hz']
        exact hno m _ hmj hz'
      · exact ⟨.int (j : Nat), H, I.tok _, ⟨_, rfl⟩, q⟩
end Sk

set_option Elab.async false
set_option linter.all false
set_option maxRecDepth 100000
set_option maxHeartbeats 2000000
namespace Sk
open PySem L2 Evl
theorem kit_ref {K : PySem.W.Frag} {mg : Str → Option Value} {x : Str} {A B : Addr} {b : Bool} (C : ClsAt K mg x B) (h0 : PySem.W.subIn K (.ref A) (.ref A) = some true) (h : PySem.W.subIn K (.ref A) (.ref B) = some b) : PySem.W.kitOne K (.ref A) (.ref B) = some b := by
  unfold PySem.W.kitOne
  by_cases e : (Value.ref A == Value.ref B) = true
  · rw [if_pos e]
    have e' : A = B := Value.ref.inj (beq_iff_eq.mp e)
    subst e'
    rw [h0] at h
    exact h
  · rw [if_neg e]
    obtain ⟨cd, hc, _⟩ := PySem.W.any_some C.e.hd
    have e2 : ((PySem.W.clsIn K B).isSome && PySem.W.typeIn K (.ref B) == some (.type "type")) = true := by rw [hc, C.ty] <;> rfl
    show (if ((PySem.W.clsIn K B).isSome && PySem.W.typeIn K (.ref B) == some (.type "type")) = true then PySem.W.subIn K (.ref A) (.ref B) else none) = some b
    rw [if_pos e2]
    exact h
theorem kit_two {K : PySem.W.Frag} {t c d : Value} (h1 : PySem.W.kitOne K t c = some false) (h2 : PySem.W.kitOne K t d = some false) : PySem.W.kitAny K t [c, d] = some false := by
  unfold PySem.W.kitAny
  rw [h1]
  show PySem.W.kitAny K t [d] = some false
  unfold PySem.W.kitAny
  rw [h2] <;> rfl
end Sk

/-! numbers as trees -/
namespace Sk
inductive T where
  | nil
  | cons (s : Int) (e : T) (r : T)
  deriving DecidableEq, Repr

/-- the signed places of an integer, the least first -/
def naf (n : Int) (p : Nat) : List (Int × Nat) :=
  if h : n = 0 then [] else if h2 : n % 2 = 1 then (2 - n % 4, p) :: naf ((n - (2 - n % 4)) / 2) (p + 1) else naf (n / 2) (p + 1)
termination_by n.natAbs
decreasing_by all_goals omega

theorem naf_zero (p : Nat) : naf 0 p = [] := by rw [naf]; simp
theorem naf_odd {n : Int} (h : n % 2 = 1) (p : Nat) : naf n p = (2 - n % 4, p) :: naf ((n - (2 - n % 4)) / 2) (p + 1) := by
  rw [naf, dif_neg (by omega), dif_pos h]
theorem naf_even {n : Int} (h : n % 2 = 0) (p : Nat) : naf n p = naf (n / 2) (p + 1) := by
  by_cases h0 : n = 0
  · subst h0; rw [naf_zero]; show _ = naf 0 _; rw [naf_zero]
  · rw [naf, dif_neg h0, dif_neg (by omega)]

/-- every place of n lies below: 2 ^ (q - p) ≤ 2 |n| - 1 -/
theorem naf_mem_ge : ∀ (k : Nat) (n : Int), n.natAbs ≤ k → ∀ (p : Nat) (x : Int × Nat), x ∈ naf n p → p ≤ x.2 ∧ 2 ^ (x.2 - p) + 1 ≤ 2 * n.natAbs ∧ (x.1 = 1 ∨ x.1 = -1)
  | 0, n, hk, p, x, hx => by
    have : n = 0 := by omega
    subst this; rw [naf_zero] at hx; cases hx
  | k + 1, n, hk, p, x, hx => by
    by_cases h0 : n = 0
    · subst h0; rw [naf_zero] at hx; cases hx
    rcases Int.emod_two_eq n with h | h
    · rw [naf_even h] at hx
      obtain ⟨h1, h2, h3⟩ := naf_mem_ge k (n / 2) (by omega) (p + 1) x hx
      refine ⟨by omega, ?_, h3⟩
      have e : x.2 - p = (x.2 - (p + 1)) + 1 := by omega
      rw [e, Nat.pow_succ]
      omega
    · rw [naf_odd h] at hx
      rcases List.mem_cons.mp hx with rfl | hx
      · have : n.natAbs ≥ 1 := by omega
        refine ⟨Nat.le_refl _, ?_, by show 2 - n % 4 = 1 ∨ 2 - n % 4 = -1; omega⟩
        show 2 ^ (p - p) + 1 ≤ _
        rw [Nat.sub_self]
        omega
      · by_cases hz : (n - (2 - n % 4)) / 2 = 0
        · rw [hz, naf_zero] at hx; cases hx
        have hev : (n - (2 - n % 4)) / 2 % 2 = 0 := by omega
        rw [naf_even hev] at hx
        obtain ⟨h1, h2, h3⟩ := naf_mem_ge k ((n - (2 - n % 4)) / 2 / 2) (by omega) (p + 1 + 1) x hx
        refine ⟨by omega, ?_, h3⟩
        have e : x.2 - p = (x.2 - (p + 1 + 1)) + 1 + 1 := by omega
        rw [e, Nat.pow_succ, Nat.pow_succ]
        omega
theorem naf_place {n : Int} {x : Int × Nat} (h : x ∈ naf n 0) : 2 ^ x.2 + 1 ≤ 2 * n.natAbs := by
  have := (naf_mem_ge n.natAbs n (Nat.le_refl _) 0 x h).2.1
  simpa using this
theorem naf_sign {n : Int} {x : Int × Nat} (h : x ∈ naf n 0) : x.1 = 1 ∨ x.1 = -1 := (naf_mem_ge n.natAbs n (Nat.le_refl _) 0 x h).2.2
theorem naf_lt {n : Int} {x : Int × Nat} (h : x ∈ naf n 0) : x.2 < n.natAbs := by
  have h1 := naf_place h
  have h2 : x.2 < 2 ^ x.2 := Nat.lt_two_pow_self
  rcases Nat.eq_zero_or_pos x.2 with h3 | h3
  · rw [h3] at h1; simp at h1; omega
  · have h4 : 2 * x.2 ≤ 2 ^ x.2 := by
      have : x.2 = (x.2 - 1) + 1 := by omega
      have h5 : x.2 - 1 < 2 ^ (x.2 - 1) := Nat.lt_two_pow_self
      rw [this, Nat.pow_succ]
      omega
    omega
/-- |n| ≤ 2 ^ m: the places are at most m -/
theorem naf_le {n : Int} {m : Nat} (hn : n.natAbs ≤ 2 ^ m) {x : Int × Nat} (h : x ∈ naf n 0) : x.2 ≤ m := by
  have h1 := naf_place h
  apply Nat.le_of_not_lt
  intro h2
  have h3 : 2 ^ (m + 1) ≤ 2 ^ x.2 := Nat.pow_le_pow_right (by decide) h2
  rw [Nat.pow_succ] at h3
  omega

def ofL : List (Int × T) → T
  | [] => .nil
  | (s, e) :: r => .cons s e (ofL r)
def T.toL : T → List (Int × T)
  | .nil => []
  | .cons s e r => (s, e) :: r.toL
theorem toL_ofL : ∀ l, (ofL l).toL = l
  | [] => rfl
  | (s, e) :: r => by rw [ofL, T.toL, toL_ofL r]
theorem ofL_toL : ∀ t : T, ofL t.toL = t
  | .nil => rfl
  | .cons s e r => by rw [T.toL, ofL, ofL_toL r]

/-- the number for an integer -/
def toT (n : Int) : T := ofL ((naf n 0).reverse.attach.map fun x => (x.1.1, toT (x.1.2 : Int)))
termination_by n.natAbs
decreasing_by
  have h := naf_lt (List.mem_reverse.mp x.2)
  simpa using h
theorem toT_eq (n : Int) : toT n = ofL ((naf n 0).reverse.map fun x => (x.1, toT (x.2 : Int))) := by
  rw [toT]
  congr 1
  exact List.attach_map_val (l := (naf n 0).reverse) (f := fun x : Int × Nat => (x.1, toT (x.2 : Int)))

def T.val : T → Int
  | .nil => 0
  | .cons s e r => s * 2 ^ e.val.toNat + r.val

def sumP : List (Int × Nat) → Int
  | [] => 0
  | (s, p) :: r => s * 2 ^ p + sumP r
theorem sumP_append : ∀ a b, sumP (a ++ b) = sumP a + sumP b
  | [], b => by simp [sumP]
  | (s, p) :: r, b => by rw [List.cons_append, sumP, sumP, sumP_append r b]; omega
theorem sumP_reverse : ∀ a, sumP a.reverse = sumP a
  | [] => rfl
  | (s, p) :: r => by rw [List.reverse_cons, sumP_append, sumP_reverse r, sumP, sumP, sumP]; omega
theorem naf_sum : ∀ (k : Nat) (n : Int), n.natAbs ≤ k → ∀ p, sumP (naf n p) = n * 2 ^ p
  | 0, n, hk, p => by
    have : n = 0 := by omega
    subst this; rw [naf_zero]; simp [sumP]
  | k + 1, n, hk, p => by
    by_cases h0 : n = 0
    · subst h0; rw [naf_zero]; simp [sumP]
    rcases Int.emod_two_eq n with h | h
    · rw [naf_even h, naf_sum k (n / 2) (by omega), Int.pow_succ, Int.mul_comm (2 ^ p) 2, ← Int.mul_assoc]
      congr 1
      omega
    · rw [naf_odd h, sumP]
      have h4 : n % 4 = 1 ∨ n % 4 = 3 := by omega
      have hs : sumP (naf ((n - (2 - n % 4)) / 2) (p + 1)) = ((n - (2 - n % 4)) / 2) * 2 ^ (p + 1) := by
        by_cases hz : (n - (2 - n % 4)) / 2 = 0
        · rw [hz, naf_zero]; simp [sumP]
        · exact naf_sum k _ (by omega) _
      rw [hs, Int.pow_succ, Int.mul_comm (2 ^ p) 2, ← Int.mul_assoc, ← Int.add_mul]
      congr 1
      omega
theorem val_ofL (l : List (Int × T)) : (ofL l).val = (l.map fun x => x.1 * 2 ^ x.2.val.toNat).sum := by
  induction l with
  | nil => rfl
  | cons x r ih => obtain ⟨s, e⟩ := x; rw [ofL, T.val, ih, List.map_cons, List.sum_cons]
theorem toT_val_aux : ∀ (k : Nat) (n : Int), n.natAbs ≤ k → (toT n).val = n
  | 0, n, hk => by
    have : n = 0 := by omega
    subst this; rw [toT_eq, naf_zero]; rfl
  | k + 1, n, hk => by
    rw [toT_eq, val_ofL, List.map_map]
    have h : ∀ l : List (Int × Nat), (∀ x ∈ l, x.2 < n.natAbs) → (l.map ((fun x : Int × T => x.1 * 2 ^ x.2.val.toNat) ∘ fun x : Int × Nat => (x.1, toT (x.2 : Int)))).sum = sumP l := by
      intro l
      induction l with
      | nil => intro _; rfl
      | cons x r ih =>
        intro hl
        obtain ⟨s, p⟩ := x
        rw [List.map_cons, List.sum_cons, ih fun y hy => hl y (List.mem_cons_of_mem _ hy), sumP]
        have hp := hl (s, p) List.mem_cons_self
        show s * 2 ^ (toT (p : Int)).val.toNat + _ = _
        rw [toT_val_aux k (p : Int) (by simp at hp ⊢; omega)]
        rfl
    rw [h _ fun x hx => naf_lt (List.mem_reverse.mp hx), sumP_reverse, naf_sum n.natAbs n (Nat.le_refl _) 0]
    simp
theorem toT_val (n : Int) : (toT n).val = n := toT_val_aux n.natAbs n (Nat.le_refl _)

/-- how many figures: the model's bit_length -/
def bl (n : Nat) : Nat := if n = 0 then 0 else n.log2 + 1
theorem lt_bl (n : Nat) : n < 2 ^ bl n := by
  unfold bl
  split
  · rename_i h; subst h; decide
  · rename_i h; exact Nat.lt_log2_self

/-- value_within -/
def T.within : T → Nat → Option Int
  | .nil, _ => some 0
  | .cons s e r, b => match e.within (bl b) with
    | none => none
    | some p => if p > (b : Int) then none else (r.within b).map (s * 2 ^ p.toNat + ·)
theorem within_val : ∀ (t : T) (b : Nat) (q : Int), t.within b = some q → q = t.val
  | .nil, b, q, h => by injection h with h; exact h.symm
  | .cons s e r, b, q, h => by
    rw [T.within] at h
    cases he : e.within (bl b) with
    | none => rw [he] at h; cases h
    | some p =>
      rw [he] at h
      simp only at h
      split at h
      · cases h
      · cases hr : r.within b with
        | none => rw [hr] at h; cases h
        | some z =>
          rw [hr] at h
          injection h with h
          rw [T.val, ← within_val e _ _ he, ← within_val r _ _ hr]
          exact h.symm
theorem within_ofL (b : Nat) : ∀ l : List (Int × Nat), (∀ x ∈ l, (toT (x.2 : Int)).within (bl b) = some (x.2 : Int) ∧ x.2 ≤ b) →
    (ofL (l.map fun x => (x.1, toT (x.2 : Int)))).within b = some (sumP l)
  | [], _ => rfl
  | (s, p) :: r, h => by
    obtain ⟨h1, h2⟩ := h (s, p) List.mem_cons_self
    rw [List.map_cons, ofL, T.within]
    have h1' : (toT (p : Int)).within (bl b) = some (p : Int) := h1
    rw [h1']
    simp only
    rw [if_neg (by have : p ≤ b := h2; omega), within_ofL b r fun x hx => h x (List.mem_cons_of_mem _ hx)]
    simp [sumP]
theorem within_small : ∀ (k : Nat) (n : Nat), n ≤ k → ∀ b : Nat, n ≤ b → (toT (n : Int)).within (bl b) = some (n : Int)
  | 0, n, hk, b, hb => by
    have : n = 0 := by omega
    subst this; rw [toT_eq]; show (ofL (List.map _ (naf 0 0).reverse)).within _ = _; rw [naf_zero]; rfl
  | k + 1, n, hk, b, hb => by
    rw [toT_eq, within_ofL]
    · rw [sumP_reverse, naf_sum _ _ (Nat.le_refl _)]; simp
    · intro x hx
      have hx := List.mem_reverse.mp hx
      have h1 := naf_lt hx
      have h2 : x.2 ≤ bl b := naf_le (n := (n : Int)) (m := bl b) (by have := lt_bl b; simp; omega) hx
      exact ⟨within_small k x.2 (by simp at h1; omega) (bl b) h2, h2⟩
/-- value_within of an integer's number -/
theorem within_int (n : Int) (b : Nat) : (toT n).within b = if (naf n 0).all (fun x => decide (x.2 ≤ b)) = true then some n else none := by
  split
  · rename_i h
    rw [toT_eq, within_ofL]
    · rw [sumP_reverse, naf_sum _ _ (Nat.le_refl _)]; simp
    · intro x hx
      have hx := List.mem_reverse.mp hx
      have h1 : x.2 ≤ b := of_decide_eq_true (List.all_eq_true.mp h x hx)
      exact ⟨within_small x.2 x.2 (Nat.le_refl _) b h1, h1⟩
  · rename_i h
    have h' : ∃ x ∈ naf n 0, b < x.2 := by
      apply Classical.byContradiction
      intro hn
      apply h
      rw [List.all_eq_true]
      intro x hx
      apply decide_eq_true
      exact Nat.le_of_not_lt fun q => hn ⟨x, hx, q⟩
    obtain ⟨x, hx, hb⟩ := h'
    rw [toT_eq]
    have : ∀ l : List (Int × Nat), x ∈ l → (ofL (l.map fun x => (x.1, toT (x.2 : Int)))).within b = none := by
      intro l
      induction l with
      | nil => intro h; cases h
      | cons y r ih =>
        intro hl
        obtain ⟨s, p⟩ := y
        rw [List.map_cons, ofL, T.within]
        cases he : (toT (p : Int)).within (bl b) with
        | none => rfl
        | some q =>
          have hq := within_val _ _ _ he
          rw [toT_val] at hq
          simp only
          split
          · rfl
          · rename_i hqb
            rcases List.mem_cons.mp hl with hl | hl
            · subst hl; simp at hb; omega
            · rw [ih hl]; rfl
    exact this _ (List.mem_reverse.mpr hx)
/-- a place above b: at least 2 ^ b in size -/
theorem big_of_place {n : Int} {b : Nat} {x : Int × Nat} (hx : x ∈ naf n 0) (hb : b < x.2) : 2 ^ b + 1 ≤ n.natAbs := by
  have h1 := naf_place hx
  have h2 : 2 ^ (b + 1) ≤ 2 ^ x.2 := Nat.pow_le_pow_right (by decide) hb
  rw [Nat.pow_succ] at h2
  omega
def T.size : T → Nat
  | .nil => 1
  | .cons _ e r => e.size + r.size
def T.height : T → Nat
  | .nil => 0
  | .cons _ e r => max (e.height + 1) r.height
def T.fits (t : T) : Prop := t.size ≤ 300 ∧ t.height ≤ 40
def T.sgn : T → Int
  | .nil => 0
  | .cons s _ _ => s
instance (t : T) : Decidable t.fits := by unfold T.fits; exact inferInstance
end Sk

set_option Elab.async false
set_option linter.all false
set_option maxRecDepth 100000
set_option maxHeartbeats 2000000
namespace Sk
open PySem L2 Evl
/-! ### numbers in the heap -/
def T.items : T → List PyData
  | .nil => []
  | .cons s e r => .tuple [.int s, .tuple e.items] :: r.items
def T.data (t : T) : PyData := .tuple t.items
/-- v is the number t -/
def NumV (K : PySem.W.Frag) (H : Hp) (v : V) (t : T) : Prop := Dp K H v t.data
/-- the terms of t -/
def TermsV (K : PySem.W.Frag) (H : Hp) (xs : List V) (t : T) : Prop := DpAll K H xs t.items
section
variable {K : PySem.W.Frag} {H H' : Hp} {v : V} {t : T}
theorem NumV.out (h : NumV K H v t) : ∃ a xs, v = .ref a ∧ SqT K H a xs ∧ TermsV K H xs t := by
  cases h with
  | tup h1 h2 => exact ⟨_, _, rfl, h1, h2⟩
theorem NumV.mk {a : Addr} {xs : List V} (h1 : SqT K H a xs) (h2 : TermsV K H xs t) : NumV K H (.ref a) t := L2.Dp.tup h1 h2
theorem TermsV.nil_out {xs : List V} (h : TermsV K H xs .nil) : xs = [] := by cases h; rfl
theorem TermsV.nil : TermsV K H [] .nil := L2.DpAll.nil
theorem TermsV.cons_out {xs : List V} {s : Int} {e r : T} (h : TermsV K H xs (.cons s e r)) : ∃ p w ys, xs = .ref p :: ys ∧ SqT K H p [.int s, w] ∧ NumV K H w e ∧ TermsV K H ys r := by
  cases h with
  | cons h1 h2 =>
    cases h1 with
    | tup g1 g2 =>
      cases g2 with
      | cons k1 k2 =>
        cases k1
        cases k2 with
        | cons l1 l2 =>
          cases l2
          exact ⟨_, _, _, rfl, g1, l1, h2⟩
theorem TermsV.cons {p : Addr} {w : V} {ys : List V} {s : Int} {e r : T} (h1 : SqT K H p [.int s, w]) (h2 : NumV K H w e) (h3 : TermsV K H ys r) : TermsV K H (.ref p :: ys) (.cons s e r) :=
  L2.DpAll.cons (L2.Dp.tup h1 (L2.DpAll.cons (L2.Dp.int s) (L2.DpAll.cons h2 L2.DpAll.nil))) h3
theorem TermsV.tex : ∀ {t : T} {xs : List V}, TermsV K H xs t → TEx H H' → TermsV K H' xs t
  | .nil, xs, h, _ => by rw [h.nil_out]; exact TermsV.nil
  | .cons s e r, xs, h, k => by
    obtain ⟨p, w, ys, rfl, h1, h2, h3⟩ := h.cons_out
    obtain ⟨a, zs, rfl, g1, g2⟩ := h2.out
    exact TermsV.cons (tex_sqt k h1) (NumV.mk (tex_sqt k g1) (TermsV.tex g2 k)) (TermsV.tex h3 k)
theorem NumV.tex (h : NumV K H v t) (e : TEx H H') : NumV K H' v t := by
  obtain ⟨a, zs, rfl, g1, g2⟩ := h.out
  exact NumV.mk (tex_sqt e g1) (g2.tex e)
theorem NumV.ex (h : NumV K H v t) (e : Ex H H') : NumV K H' v t := h.tex (Ex.t e)
theorem TermsV.ex {xs : List V} (h : TermsV K H xs t) (e : Ex H H') : TermsV K H' xs t := h.tex (Ex.t e)
theorem numT : MonoT (fun v H => NumV K H v t) := fun v H H' e h => NumV.tex h e
theorem TermsV.len : ∀ {t : T} {xs : List V}, TermsV K H xs t → xs.length = t.toL.length
  | .nil, xs, h => by rw [h.nil_out]; rfl
  | .cons s e r, xs, h => by
    obtain ⟨p, w, ys, rfl, _, _, h3⟩ := h.cons_out
    show ys.length + 1 = r.toL.length + 1
    rw [TermsV.len h3]
/-- term by term -/
theorem TermsV.get : ∀ {t : T} {xs : List V} {i : Nat} {x : V}, TermsV K H xs t → xs[i]? = some x → ∃ p s e w, x = .ref p ∧ t.toL[i]? = some (s, e) ∧ SqT K H p [.int s, w] ∧ NumV K H w e
  | .nil, xs, i, x, h, e => by rw [h.nil_out] at e; simp at e
  | .cons s e r, xs, 0, x, h, q => by
    obtain ⟨p, w, ys, rfl, h1, h2, h3⟩ := h.cons_out
    simp at q; subst q
    exact ⟨p, s, e, w, rfl, rfl, h1, h2⟩
  | .cons s e r, xs, i + 1, x, h, q => by
    obtain ⟨p, w, ys, rfl, h1, h2, h3⟩ := h.cons_out
    simp at q
    obtain ⟨p', s', e', w', g1, g2, g3, g4⟩ := TermsV.get h3 q
    exact ⟨p', s', e', w', g1, g2, g3, g4⟩
/-- terms from their parts -/
theorem TermsV.of : ∀ {l : List (Int × T)} {xs : List V}, xs.length = l.length → (∀ (i : Nat) (x : V) (s : Int) (e : T), xs[i]? = some x → l[i]? = some (s, e) → ∃ p w, x = V.ref p ∧ SqT K H p [V.int s, w] ∧ NumV K H w e) → TermsV K H xs (ofL l)
  | [], [], _, _ => L2.DpAll.nil
  | [], _ :: _, h, _ => by simp at h
  | _ :: _, [], h, _ => by simp at h
  | (s, e) :: l, x :: xs, h, k => by
    obtain ⟨p, w, rfl, h1, h2⟩ := k 0 x s e rfl rfl
    exact TermsV.cons h1 h2 (TermsV.of (by simpa using h) fun i x s e h1 h2 => k (i + 1) x s e (by simpa using h1) (by simpa using h2))
end
end Sk

set_option Elab.async false
set_option linter.all false
set_option maxRecDepth 100000
set_option maxHeartbeats 2000000
namespace Sk
open PySem L2 Evl
/-! ### promises: from what is handed to the relation of what comes back; with X: and which error may leave -/
def spF0 (P : Hp → VP → Prop) : Sp := fun vs H Q _ => ∃ R, vs = [] ∧ P H R ∧ ∀ v H', Ex H H' → R v H' → Q v H'
def spF1 (P : V → Hp → VP → Prop) : Sp := fun vs H Q _ => ∃ x R, vs = [x] ∧ P x H R ∧ ∀ v H', Ex H H' → R v H' → Q v H'
def spF2 (P : V → V → Hp → VP → Prop) : Sp := fun vs H Q _ => ∃ x y R, vs = [x, y] ∧ P x y H R ∧ ∀ v H', Ex H H' → R v H' → Q v H'
def spF3 (P : V → V → V → Hp → VP → Prop) : Sp := fun vs H Q _ => ∃ x y z R, vs = [x, y, z] ∧ P x y z H R ∧ ∀ v H', Ex H H' → R v H' → Q v H'
def spF4 (P : V → V → V → V → Hp → VP → Prop) : Sp := fun vs H Q _ => ∃ x y z u R, vs = [x, y, z, u] ∧ P x y z u H R ∧ ∀ v H', Ex H H' → R v H' → Q v H'
abbrev WP := Addr → Prop
def spX1 (K : PySem.W.Frag) (P : V → Hp → VP → WP → Prop) : Sp := fun vs H Q E => ∃ x R W, vs = [x] ∧ P x H R W ∧ (∀ v H', Ex H H' → R v H' → Q v H') ∧ ∀ C H', Ex H H' → W C → ∀ d, ErrAt K C d H' → E (.ref C) (some d) H'
def spX2 (K : PySem.W.Frag) (P : V → V → Hp → VP → WP → Prop) : Sp := fun vs H Q E => ∃ x y R W, vs = [x, y] ∧ P x y H R W ∧ (∀ v H', Ex H H' → R v H' → Q v H') ∧ ∀ C H', Ex H H' → W C → ∀ d, ErrAt K C d H' → E (.ref C) (some d) H'
def spX3 (K : PySem.W.Frag) (P : V → V → V → Hp → VP → WP → Prop) : Sp := fun vs H Q E => ∃ x y z R W, vs = [x, y, z] ∧ P x y z H R W ∧ (∀ v H', Ex H H' → R v H' → Q v H') ∧ ∀ C H', Ex H H' → W C → ∀ d, ErrAt K C d H' → E (.ref C) (some d) H'
section
variable {K : PySem.W.Frag} {vs : List V} {H : Hp} {Q : VK} {E : XK} {R : VP} {W : WP} {x y z u : V}
theorem spF1.len {P} (h : spF1 P vs H Q E) : vs.length = 1 := by obtain ⟨x, R, rfl, _⟩ := h; rfl
theorem spF2.len {P} (h : spF2 P vs H Q E) : vs.length = 2 := by obtain ⟨x, y, R, rfl, _⟩ := h; rfl
theorem spF3.len {P} (h : spF3 P vs H Q E) : vs.length = 3 := by obtain ⟨x, y, z, R, rfl, _⟩ := h; rfl
theorem spF4.len {P} (h : spF4 P vs H Q E) : vs.length = 4 := by obtain ⟨x, y, z, u, R, rfl, _⟩ := h; rfl
theorem spX1.len {P} (h : spX1 K P vs H Q E) : vs.length = 1 := by obtain ⟨x, R, W, rfl, _⟩ := h; rfl
theorem spX2.len {P} (h : spX2 K P vs H Q E) : vs.length = 2 := by obtain ⟨x, y, R, W, rfl, _⟩ := h; rfl
theorem spX3.len {P} (h : spX3 K P vs H Q E) : vs.length = 3 := by obtain ⟨x, y, z, R, W, rfl, _⟩ := h; rfl
theorem sr1 {P} (h : P x H R) : SR (spF1 P) [x] H R := fun Q E q => ⟨x, R, rfl, h, q⟩
theorem sr2 {P} (h : P x y H R) : SR (spF2 P) [x, y] H R := fun Q E q => ⟨x, y, R, rfl, h, q⟩
theorem sr3 {P} (h : P x y z H R) : SR (spF3 P) [x, y, z] H R := fun Q E q => ⟨x, y, z, R, rfl, h, q⟩
theorem sr4 {P} (h : P x y z u H R) : SR (spF4 P) [x, y, z, u] H R := fun Q E q => ⟨x, y, z, u, R, rfl, h, q⟩
/-- a call that may raise, where nothing is raised -/
theorem srx1 {P} (h : P x H R fun _ => False) : SR (spX1 K P) [x] H R := fun Q E q => ⟨x, R, _, rfl, h, q, fun _ _ _ z => z.elim⟩
theorem srx2 {P} (h : P x y H R fun _ => False) : SR (spX2 K P) [x, y] H R := fun Q E q => ⟨x, y, R, _, rfl, h, q, fun _ _ _ z => z.elim⟩
theorem srx3 {P} (h : P x y z H R fun _ => False) : SR (spX3 K P) [x, y, z] H R := fun Q E q => ⟨x, y, z, R, _, rfl, h, q, fun _ _ _ z => z.elim⟩
end
/-! ### calls of one, two, three arguments by their values -/
section
variable {K : PySem.W.Frag} {σ : L2.St} {H : Hp} {te tf tg : TE} {R R1 R2 R3 : VP} {E : XK} {D : Ends} {tz tu : TS} {t : TT} {i : Nat}
theorem er_call1 {P} (h : ER te σ H R1) (m : Mono R1) (k : ∀ v H1, Ex H H1 → R1 v H1 → P v H1 R) : ER (tCall (spF1 P) [] E (tCons te tNil)) σ H R :=
  er_call (ea_one h m) fun vs H1 e ⟨v, hv, r⟩ => by rw [hv]; exact sr1 (k v H1 e r)
theorem er_call2 {P} (h : ER te σ H R1) (m : Mono R1) (h' : ER tf σ H R2) (m' : Mono R2) (k : ∀ v w H1, Ex H H1 → R1 v H1 → R2 w H1 → P v w H1 R) : ER (tCall (spF2 P) [] E (tCons te (tCons tf tNil))) σ H R :=
  er_call (ea_two h m h' m') fun vs H1 e ⟨v, w, hv, r, r'⟩ => by rw [hv]; exact sr2 (k v w H1 e r r')
theorem er_call3 {P} (h : ER te σ H R1) (m : Mono R1) (h' : ER tf σ H R2) (m' : Mono R2) (h'' : ER tg σ H R3) (m'' : Mono R3) (k : ∀ v w z H1, Ex H H1 → R1 v H1 → R2 w H1 → R3 z H1 → P v w z H1 R) : ER (tCall (spF3 P) [] E (tCons te (tCons tf (tCons tg tNil)))) σ H R :=
  er_call (ea_three h m h' m' h'' m'') fun vs H1 e ⟨v, w, z, hv, r, r', r''⟩ => by rw [hv]; exact sr3 (k v w z H1 e r r' r'')
/-- a call that may raise -/
theorem x_call1 {P : V → Hp → VP → WP → Prop} (h : ER te σ H R1) (m : Mono R1) (Q : VK) (k : ∀ v H1, Ex H H1 → R1 v H1 → ∃ R W, P v H1 R W ∧ (∀ w H2, Ex H1 H2 → R w H2 → Q w H2) ∧ ∀ C H2, Ex H1 H2 → W C → ∀ d, ErrAt K C d H2 → E (.ref C) (some d) H2) : tCall (spX1 K P) [] E (tCons te tNil) σ H Q :=
  ea_one h m H (Ex.refl H) _ fun vs H1 e ⟨v, hv, r⟩ => by
    subst hv
    obtain ⟨R, W, h1, h2, h3⟩ := k v H1 e r
    exact ⟨v, R, W, rfl, h1, h2, h3⟩
theorem x_call2 {P : V → V → Hp → VP → WP → Prop} (h : ER te σ H R1) (m : Mono R1) (h' : ER tf σ H R2) (m' : Mono R2) (Q : VK) (k : ∀ v v' H1, Ex H H1 → R1 v H1 → R2 v' H1 → ∃ R W, P v v' H1 R W ∧ (∀ w H2, Ex H1 H2 → R w H2 → Q w H2) ∧ ∀ C H2, Ex H1 H2 → W C → ∀ d, ErrAt K C d H2 → E (.ref C) (some d) H2) : tCall (spX2 K P) [] E (tCons te (tCons tf tNil)) σ H Q :=
  ea_two h m h' m' H (Ex.refl H) _ fun vs H1 e ⟨v, v', hv, r, r'⟩ => by
    subst hv
    obtain ⟨R, W, h1, h2, h3⟩ := k v v' H1 e r r'
    exact ⟨v, v', R, W, rfl, h1, h2, h3⟩
/-- the same in a try (the wish is told by the slots) -/
theorem xs_call1 {P : V → Hp → VP → WP → Prop} {ES : L2.St → XK} (h : ER te σ H R1) (m : Mono R1) (Q : VK) (k : ∀ v H1, Ex H H1 → R1 v H1 → ∃ R W, P v H1 R W ∧ (∀ w H2, Ex H1 H2 → R w H2 → Q w H2) ∧ ∀ C H2, Ex H1 H2 → W C → ∀ d, ErrAt K C d H2 → ES σ (.ref C) (some d) H2) : tCallS (spX1 K P) ES (tCons te tNil) σ H Q :=
  ea_one h m H (Ex.refl H) _ fun vs H1 e ⟨v, hv, r⟩ => by
    subst hv
    obtain ⟨R, W, h1, h2, h3⟩ := k v H1 e r
    exact ⟨v, R, W, rfl, h1, h2, h3⟩
theorem xs_call2 {P : V → V → Hp → VP → WP → Prop} {ES : L2.St → XK} (h : ER te σ H R1) (m : Mono R1) (h' : ER tf σ H R2) (m' : Mono R2) (Q : VK) (k : ∀ v v' H1, Ex H H1 → R1 v H1 → R2 v' H1 → ∃ R W, P v v' H1 R W ∧ (∀ w H2, Ex H1 H2 → R w H2 → Q w H2) ∧ ∀ C H2, Ex H1 H2 → W C → ∀ d, ErrAt K C d H2 → ES σ (.ref C) (some d) H2) : tCallS (spX2 K P) ES (tCons te (tCons tf tNil)) σ H Q :=
  ea_two h m h' m' H (Ex.refl H) _ fun vs H1 e ⟨v, v', hv, r, r'⟩ => by
    subst hv
    obtain ⟨R, W, h1, h2, h3⟩ := k v v' H1 e r r'
    exact ⟨v, v', R, W, rfl, h1, h2, h3⟩
theorem monoC {P : V → Prop} : Mono (fun v _ => P v) := fun _ _ _ _ h => h
theorem monoTC {P : V → Prop} : MonoT (fun v _ => P v) := fun _ _ _ _ h => h
theorem monoTrue : Mono (fun _ _ => True) := fun _ _ _ _ h => h
/-- while: a word that falls -/
theorem q_while' (W : Nat → L2.St → Hp → Prop) (m0 : Nat) (h0 : W m0 σ H)
    (hs : ∀ m σ' H', W m σ' H' → ∃ b, EvT t σ' H' b ∧ (b = true → ∀ H1, Ex H' H1 → tu { D with nx := fun σ2 H2 => ∃ m', m' < m ∧ W m' σ2 H2, ct := fun σ2 H2 => ∃ m', m' < m ∧ W m' σ2 H2, bk := tz D } σ' H1) ∧ (b = false → ∀ H1, Ex H' H1 → tz D σ' H1)) : tSeq (tWhile t tu) tz D σ H :=
  q_while W m0 h0 fun m σ' H' w => by
    obtain ⟨b, h1, h2, h3⟩ := hs m σ' H' w
    exact ⟨b, h1, fun hb H1 e => ⟨fun σ2 H2 => ∃ m', m' < m ∧ W m' σ2 H2, fun _ _ z => z, h2 hb H1 e⟩, h3⟩
end
/-! ### loops' steps -/
theorem nil_of_lst {H : Hp} {p : Addr} : ∀ b o, upd H p o b = upd H p o b := fun _ _ => rfl
end Sk
namespace Sk
open PySem L2 Evl
/-! ### lists whose items stand for the items of a list -/
def ItemsR {α : Type} (R : α → VP) (l : List α) (ys : List V) (H : Hp) : Prop := ys.length = l.length ∧ ∀ (i : Nat) (y : V) (a : α), ys[i]? = some y → l[i]? = some a → R a y H
section
variable {α : Type} {R R' : α → VP} {l l' : List α} {ys zs : List V} {H H' : Hp}
theorem ItemsR.nil : ItemsR R [] [] H := ⟨rfl, fun i y a h => by simp at h⟩
theorem ItemsR.tex (m : ∀ a, MonoT (R a)) (h : ItemsR R l ys H) (e : TEx H H') : ItemsR R l ys H' := ⟨h.1, fun i y a h1 h2 => m a y H H' e (h.2 i y a h1 h2)⟩
theorem ItemsR.ex (m : ∀ a, Mono (R a)) (h : ItemsR R l ys H) (e : Ex H H') : ItemsR R l ys H' := ⟨h.1, fun i y a h1 h2 => m a y H H' e (h.2 i y a h1 h2)⟩
theorem ItemsR.snoc {a : α} {y : V} (h : ItemsR R l ys H) (hy : R a y H) : ItemsR R (l ++ [a]) (ys ++ [y]) H := by
  refine ⟨by rw [List.length_append, List.length_append, h.1]; rfl, fun i z b h1 h2 => ?_⟩
  rcases Nat.lt_or_ge i ys.length with hi | hi
  · rw [List.getElem?_append_left hi] at h1
    rw [List.getElem?_append_left (by rw [← h.1]; exact hi)] at h2
    exact h.2 i z b h1 h2
  · rw [List.getElem?_append_right hi] at h1
    rw [List.getElem?_append_right (by rw [← h.1]; exact hi), ← h.1] at h2
    cases hq : i - ys.length with
    | zero => rw [hq] at h1 h2; cases h1; cases h2; exact hy
    | succ n => rw [hq] at h1; cases h1
theorem ItemsR.rev (h : ItemsR R l ys H) : ItemsR R l.reverse ys.reverse H := by
  refine ⟨by rw [List.length_reverse, List.length_reverse, h.1], fun i z b h1 h2 => ?_⟩
  have hi : i < ys.reverse.length := (List.getElem?_eq_some_iff.mp h1).1
  rw [List.length_reverse] at hi
  rw [List.getElem?_reverse hi] at h1
  rw [List.getElem?_reverse (by rw [← h.1]; exact hi), ← h.1] at h2
  exact h.2 _ z b h1 h2
theorem ItemsR.imp (h : ItemsR R l ys H) (k : ∀ a y, a ∈ l → R a y H → R' a y H) : ItemsR R' l ys H := ⟨h.1, fun i y a h1 h2 => k a y (List.mem_of_getElem? h2) (h.2 i y a h1 h2)⟩
theorem ItemsR.at {i : Nat} {a : α} (h : ItemsR R l ys H) (ha : l[i]? = some a) : ∃ y, ys[i]? = some y ∧ R a y H := by
  have hi : i < l.length := (List.getElem?_eq_some_iff.mp ha).1
  have hi2 : i < ys.length := by rw [h.1]; exact hi
  have hy : ys[i]? = some ys[i] := List.getElem?_eq_getElem hi2
  exact ⟨_, hy, h.2 i _ a hy ha⟩
theorem ItemsR.of_at {i : Nat} {y : V} (h : ItemsR R l ys H) (hy : ys[i]? = some y) : ∃ a, l[i]? = some a ∧ R a y H := by
  have hi : i < ys.length := (List.getElem?_eq_some_iff.mp hy).1
  have hi2 : i < l.length := by rw [← h.1]; exact hi
  have ha : l[i]? = some l[i] := List.getElem?_eq_getElem hi2
  exact ⟨_, ha, h.2 i y _ hy ha⟩
end
/-- ints -/
def IntI (n : Int) : VP := fun v _ => v = .int n
theorem ItemsR.ints {l : List Int} {ys : List V} {H : Hp} (h : ItemsR IntI l ys H) : ys = l.map V.int := by
  apply List.ext_getElem?
  intro i
  rw [List.getElem?_map]
  cases hy : ys[i]? with
  | none =>
    have : l[i]? = none := List.getElem?_eq_none (by rw [← h.1]; exact List.getElem?_eq_none_iff.mp hy)
    rw [this]; rfl
  | some y =>
    obtain ⟨a, ha, e⟩ := h.of_at hy
    rw [ha, Option.map_some, e]
/-- a pair of ints, as a tuple -/
def PairI (x : Int × Nat) : VP := fun v H => ∃ q, v = .ref q ∧ H q = some (.tup [.int x.1, .int (x.2 : Int)])
theorem pairI (x : Int × Nat) : MonoT (PairI x) := fun v H H' e ⟨q, h1, h2⟩ => ⟨q, h1, e q _ h2 True.intro⟩
/-- a list of them -/
def ListR {α : Type} (R : α → VP) (l : List α) : VP := fun v H => ∃ p ys, v = .ref p ∧ H p = some (.lst ys) ∧ ItemsR R l ys H
section
variable {H : Hp}
theorem ItemsR.set {α : Type} {R : α → VP} {l : List α} {ys : List V} {i : Nat} {a : α} {y : V} (h : ItemsR R l ys H) (hy : R a y H) : ItemsR R (l.set i a) (ys.set i y) H := by
  refine ⟨by rw [List.length_set, List.length_set, h.1], fun j z b h1 h2 => ?_⟩
  by_cases e : i = j
  · subst e
    have hlt : i < ys.length := by
      have := (List.getElem?_eq_some_iff.mp h1).1
      rw [List.length_set] at this; exact this
    rw [List.getElem?_set_self hlt] at h1
    rw [List.getElem?_set_self (by rw [← h.1]; exact hlt)] at h2
    cases h1; cases h2; exact hy
  · rw [List.getElem?_set_ne e] at h1 h2
    exact h.2 j z b h1 h2
theorem ItemsR.append {α : Type} {R : α → VP} {l l' : List α} {ys zs : List V} (h : ItemsR R l ys H) (h' : ItemsR R l' zs H) : ItemsR R (l ++ l') (ys ++ zs) H := by
  refine ⟨by rw [List.length_append, List.length_append, h.1, h'.1], fun i z b h1 h2 => ?_⟩
  rcases Nat.lt_or_ge i ys.length with hi | hi
  · rw [List.getElem?_append_left hi] at h1
    rw [List.getElem?_append_left (by rw [← h.1]; exact hi)] at h2
    exact h.2 i z b h1 h2
  · rw [List.getElem?_append_right hi] at h1
    rw [List.getElem?_append_right (by rw [← h.1]; exact hi), ← h.1] at h2
    exact h'.2 _ z b h1 h2
theorem ItemsR.take {α : Type} {R : α → VP} {l : List α} {ys : List V} (n : Nat) (h : ItemsR R l ys H) : ItemsR R (l.take n) (ys.take n) H := by
  refine ⟨by rw [List.length_take, List.length_take, h.1], fun i z b h1 h2 => ?_⟩
  rw [List.getElem?_take] at h1 h2
  split at h1
  · rename_i q
    rw [if_pos q] at h2
    exact h.2 i z b h1 h2
  · cases h1
theorem ItemsR.drop {α : Type} {R : α → VP} {l : List α} {ys : List V} (n : Nat) (h : ItemsR R l ys H) : ItemsR R (l.drop n) (ys.drop n) H := by
  refine ⟨by rw [List.length_drop, List.length_drop, h.1], fun i z b h1 h2 => ?_⟩
  rw [List.getElem?_drop] at h1 h2
  exact h.2 _ z b h1 h2
theorem ItemsR.ins {α : Type} {R : α → VP} {l : List α} {ys : List V} {a : α} {y : V} (n : Nat) (h : ItemsR R l ys H) (hy : R a y H) : ItemsR R (l.take n ++ [a] ++ l.drop n) (ys.take n ++ [y] ++ ys.drop n) H :=
  ((h.take n).append (ItemsR.snoc (l := []) .nil hy)).append (h.drop n)
end
end Sk

set_option Elab.async false
set_option linter.all false
set_option maxRecDepth 100000
set_option maxHeartbeats 2000000
namespace Sk
open PySem L2 Evl
/-! ### the form of numbers: each exponent by two or more above the next -/
def T.lead : T → Int
  | .nil => -2
  | .cons _ e _ => e.val
def T.can : T → Prop
  | .nil => True
  | .cons s e r => ((s = 1 ∨ s = -1) ∧ 0 ≤ e.val ∧ r.lead + 2 ≤ e.val) ∧ e.can ∧ r.can
/-- the bounds of a number by its first exponent -/
theorem can_bounds : ∀ {t : T}, t.can → (3 * t.val ≤ 2 ^ (t.lead + 2).toNat - 1 ∧ -(2 ^ (t.lead + 2).toNat - 1) ≤ 3 * t.val) ∧
    ∀ s e r, t = .cons s e r → 2 ^ (e.val.toNat + 1) + 1 ≤ 3 * (s * t.val)
  | .nil, _ => ⟨⟨by decide, by decide⟩, fun s e r h => by cases h⟩
  | .cons s e r, ⟨⟨hs, he, hl⟩, _, hr⟩ => by
    obtain ⟨⟨b1, b2⟩, _⟩ := can_bounds hr
    have hp : (2 : Int) ^ (r.lead + 2).toNat ≤ 2 ^ e.val.toNat := by
      have h : (2 : Nat) ^ (r.lead + 2).toNat ≤ 2 ^ e.val.toNat := Nat.pow_le_pow_right (by decide) (by omega)
      exact_mod_cast h
    have e2 : (e.val + 2).toNat = e.val.toNat + 2 := by omega
    have p2 : (2 : Int) ^ (e.val.toNat + 2) = 4 * 2 ^ e.val.toNat := by rw [Int.pow_add]; omega
    have p1 : (2 : Int) ^ (e.val.toNat + 1) = 2 * 2 ^ e.val.toNat := by rw [Int.pow_add]; omega
    have hv : (T.cons s e r).val = s * 2 ^ e.val.toNat + r.val := rfl
    have hlead : (T.cons s e r).lead = e.val := rfl
    refine ⟨?_, fun s' e' r' h => ?_⟩
    · rw [hlead, e2, p2, hv]
      generalize (2 : Int) ^ e.val.toNat = P at *
      rcases hs with rfl | rfl <;> omega
    · cases h
      rw [p1, hv]
      generalize (2 : Int) ^ e.val.toNat = P at *
      rcases hs with rfl | rfl <;> omega
theorem can_pos {s : Int} {e r : T} (h : (T.cons s e r).can) : 0 < s * (T.cons s e r).val := by
  have h1 := (can_bounds h).2 s e r rfl
  have h2 : (0 : Int) < 2 ^ (e.val.toNat + 1) := Int.pow_pos (by decide)
  omega
theorem can_sgn : ∀ {t : T}, t.can → (t.sgn = 0 ∧ t.val = 0) ∨ (t.sgn = 1 ∧ 0 < t.val) ∨ (t.sgn = -1 ∧ t.val < 0)
  | .nil, _ => .inl ⟨rfl, rfl⟩
  | .cons s e r, h => by
    have hp := can_pos h
    rcases h.1.1 with rfl | rfl
    · exact .inr (.inl ⟨rfl, by omega⟩)
    · exact .inr (.inr ⟨rfl, by omega⟩)
theorem can_big {s : Int} {e r : T} (h : (T.cons s e r).can) : 2 ^ e.val.toNat < 2 * (T.cons s e r).val.natAbs ∧ 2 * r.val.natAbs < 2 ^ e.val.toNat := by
  have h1 := (can_bounds h).2 s e r rfl
  obtain ⟨⟨b1, b2⟩, _⟩ := can_bounds h.2.2
  have hl := h.1.2.2
  have he := h.1.2.1
  have hp : (2 : Int) ^ (r.lead + 2).toNat ≤ 2 ^ e.val.toNat := by
    have h : (2 : Nat) ^ (r.lead + 2).toNat ≤ 2 ^ e.val.toNat := Nat.pow_le_pow_right (by decide) (by omega)
    exact_mod_cast h
  have p1 : (2 : Int) ^ (e.val.toNat + 1) = 2 * 2 ^ e.val.toNat := by rw [Int.pow_add]; omega
  rw [p1] at h1
  have c : ((2 ^ e.val.toNat : Nat) : Int) = (2 : Int) ^ e.val.toNat := by norm_cast
  rcases h.1.1 with rfl | rfl
  · constructor <;> omega
  · constructor <;> omega
theorem pow_bl_gt (b : Nat) : b < 2 ^ bl b := lt_bl b
theorem can_none : ∀ {t : T} {b : Nat}, t.can → t.within b = none → 2 ^ b < t.val.natAbs
  | .nil, b, _, h => by cases h
  | .cons s e r, b, hc, h => by
    obtain ⟨g1, g2⟩ := can_big hc
    have he := hc.1.2.1
    have fin : b + 1 ≤ e.val.toNat → 2 ^ b < (T.cons s e r).val.natAbs := fun h1 => by
      have h2 : 2 ^ (b + 1) ≤ 2 ^ e.val.toNat := Nat.pow_le_pow_right (by decide) h1
      rw [Nat.pow_succ] at h2
      omega
    rw [T.within] at h
    cases hq : e.within (bl b) with
    | none =>
      have ih := can_none hc.2.1 hq
      have h3 := lt_bl b
      exact fin (by omega)
    | some q =>
      rw [hq] at h
      simp only at h
      have hqv := within_val _ _ _ hq
      split at h
      · rename_i hb
        exact fin (by omega)
      · cases hr : r.within b with
        | none =>
          have ih := can_none hc.2.2 hr
          omega
        | some z => rw [hr] at h; cases h
/-- from the list of the terms -/
theorem can_ofL : ∀ {l : List (Int × T)}, (∀ x ∈ l, (x.1 = 1 ∨ x.1 = -1) ∧ 0 ≤ x.2.val ∧ x.2.can) → l.Pairwise (fun x y => y.2.val + 2 ≤ x.2.val) → (ofL l).can
  | [], _, _ => True.intro
  | (s, e) :: r, h, hp => by
    have h0 := h (s, e) List.mem_cons_self
    have hp' := List.pairwise_cons.mp hp
    refine ⟨⟨h0.1, h0.2.1, ?_⟩, h0.2.2, can_ofL (fun x hx => h x (List.mem_cons_of_mem _ hx)) hp'.2⟩
    cases r with
    | nil => have := h0.2.1; show -2 + 2 ≤ e.val; exact this
    | cons y r => exact hp'.1 y List.mem_cons_self
theorem naf_gap : ∀ (k : Nat) (n : Int), n.natAbs ≤ k → ∀ p, (naf n p).Pairwise (fun x y => x.2 + 2 ≤ y.2)
  | 0, n, hk, p => by
    have : n = 0 := by omega
    subst this; rw [naf_zero]; exact List.Pairwise.nil
  | k + 1, n, hk, p => by
    by_cases h0 : n = 0
    · subst h0; rw [naf_zero]; exact List.Pairwise.nil
    rcases Int.emod_two_eq n with h | h
    · rw [naf_even h]
      exact naf_gap k _ (by omega) _
    · rw [naf_odd h]
      refine List.pairwise_cons.mpr ⟨fun y hy => ?_, ?_⟩
      · have hev : (n - (2 - n % 4)) / 2 % 2 = 0 := by omega
        rw [naf_even hev] at hy
        exact (naf_mem_ge _ _ (Nat.le_refl _) (p + 1 + 1) y hy).1
      · by_cases hz : (n - (2 - n % 4)) / 2 = 0
        · rw [hz, naf_zero]; exact List.Pairwise.nil
        · exact naf_gap k _ (by omega) _
theorem toT_can_aux : ∀ (k : Nat) (n : Int), n.natAbs ≤ k → (toT n).can
  | k, n, hk => by
    rw [toT_eq]
    refine can_ofL (fun x hx => ?_) ?_
    · obtain ⟨y, hy, rfl⟩ := List.mem_map.mp hx
      have hy := List.mem_reverse.mp hy
      have hlt := naf_lt hy
      refine ⟨naf_sign hy, by show 0 ≤ (toT (y.2 : Int)).val; rw [toT_val]; omega, ?_⟩
      cases k with
      | zero => omega
      | succ k => exact toT_can_aux k _ (by simp; omega)
    · rw [List.pairwise_map, List.pairwise_reverse]
      refine (naf_gap _ n (Nat.le_refl _) 0).imp fun {x y} h => ?_
      show (toT (x.2 : Int)).val + 2 ≤ (toT (y.2 : Int)).val
      rw [toT_val, toT_val]
      omega
theorem toT_can (n : Int) : (toT n).can := toT_can_aux _ n (Nat.le_refl _)
theorem pow_leI {a b : Nat} (h : a ≤ b) : (2 : Int) ^ a ≤ 2 ^ b := by
  have : (2 : Nat) ^ a ≤ 2 ^ b := Nat.pow_le_pow_right (by decide) h
  exact_mod_cast this
/-- the first exponent tells how great a number is -/
theorem lead_lt {s s' : Int} {e e' r r' : T} (h : (T.cons s e r).can) (h' : (T.cons s' e' r').can) (hl : e.val < e'.val) : s * (T.cons s e r).val < s' * (T.cons s' e' r').val ∧ -(s * (T.cons s e r).val) < s' * (T.cons s' e' r').val := by
  obtain ⟨⟨b1, b2⟩, b3⟩ := can_bounds h
  have c3 := (can_bounds h').2 s' e' r' rfl
  have he := h.1.2.1
  have hlead : (T.cons s e r).lead = e.val := rfl
  rw [hlead] at b1 b2
  have hp : (2 : Int) ^ (e.val + 2).toNat ≤ 2 ^ (e'.val.toNat + 1) := pow_leI (by omega)
  have hpos := can_pos h
  generalize (T.cons s e r).val = x at *
  generalize (T.cons s' e' r').val = y at *
  rcases h.1.1 with rfl | rfl
  · constructor <;> omega
  · constructor <;> omega
theorem can_uniq : ∀ {t u : T}, t.can → u.can → t.val = u.val → t = u
  | .nil, .nil, _, _, _ => rfl
  | .nil, .cons s e r, _, h, hv => by
    have := can_pos h
    rw [← hv] at this
    simp [T.val] at this
  | .cons s e r, .nil, h, _, hv => by
    have := can_pos h
    rw [hv] at this
    simp [T.val] at this
  | .cons s e r, .cons s' e' r', h, h', hv => by
    have p1 := can_pos h
    have p2 := can_pos h'
    have hs : s = s' := by
      rw [hv] at p1
      generalize (T.cons s' e' r').val = y at *
      rcases h.1.1 with rfl | rfl <;> rcases h'.1.1 with rfl | rfl <;> omega
    subst hs
    have hev : e.val = e'.val := by
      rcases Int.lt_trichotomy e.val e'.val with q | q | q
      · have := (lead_lt h h' q).1
        rw [hv] at this; omega
      · exact q
      · have := (lead_lt h' h q).1
        rw [hv] at this; omega
    have he := can_uniq h.2.1 h'.2.1 hev
    subst he
    have hr : r.val = r'.val := by
      have h1 : s * 2 ^ e.val.toNat + r.val = s * 2 ^ e.val.toNat + r'.val := hv
      omega
    rw [can_uniq h.2.2 h'.2.2 hr]
theorem can_eq {t : T} (h : t.can) : t = toT t.val := can_uniq h (toT_can _) (toT_val _).symm
end Sk

set_option Elab.async false
set_option linter.all false
set_option maxRecDepth 100000
set_option maxHeartbeats 2000000
namespace Sk
open PySem L2 Evl
/-! ### written tuples of the module, read as data -/
def kall (f : Value → Option PyData) : List Value → Option (List PyData)
  | [] => some []
  | v :: r => match f v, kall f r with
    | some d, some ds => some (d :: ds)
    | _, _ => none
def kdat (K : PySem.W.Frag) : Nat → Value → Option PyData
  | 0, _ => none
  | n + 1, .int i _ => some (.int i)
  | n + 1, .str x _ => some (.str x)
  | n + 1, .ref a => match K.lookup a with
    | some ⟨.type "tuple", none, .seq its _, _⟩ => if its.size ≤ 1000 then (kall (kdat K n) its.toList).map PyData.tuple else none
    | _ => none
  | _, _ => none
theorem kall_dp {K : PySem.W.Frag} {f : Value → Option PyData} (hf : ∀ v d, f v = some d → ∃ x, RelV x v ∧ ∀ H, Dp K H x d) : ∀ (vs : List Value) (ds : List PyData), kall f vs = some ds → ∃ xs, Vals xs vs ∧ ∀ H, DpAll K H xs ds
  | [], ds, h => by cases h; exact ⟨[], .nil, fun H => .nil⟩
  | v :: r, ds, h => by
    unfold kall at h
    split at h
    · rename_i d ds' h1 h2
      cases h
      obtain ⟨x, r1, d1⟩ := hf v d h1
      obtain ⟨xs, r2, d2⟩ := kall_dp hf r ds' h2
      exact ⟨x :: xs, .cons r1 r2, fun H => .cons (d1 H) (d2 H)⟩
    · cases h
theorem kdat_dp {K : PySem.W.Frag} : ∀ (n : Nat) (v : Value) (d : PyData), kdat K n v = some d → ∃ x, RelV x v ∧ ∀ H, Dp K H x d
  | 0, v, d, h => by cases h
  | n + 1, v, d, h => by
    unfold kdat at h
    split at h
    · cases h
    · cases h; exact ⟨.int _, ⟨_, rfl⟩, fun H => .int _⟩
    · cases h; exact ⟨.str _, ⟨_, rfl⟩, fun H => .str _⟩
    · rename_i n' a hn
      cases hn
      split at h
      · rename_i its z sl hk
        split at h
        · rename_i hz
          cases hq : kall (kdat K n) its.toList with
          | none => rw [hq] at h; cases h
          | some ds =>
            rw [hq] at h
            cases h
            obtain ⟨xs, r2, d2⟩ := kall_dp (kdat_dp n) _ _ hq
            exact ⟨.ref a, rfl, fun H => .tup (.inr ⟨_, its, z, hk, rfl, rfl, Nat.le_trans hz (by decide), r2⟩) (d2 H)⟩
        · cases h
      · cases h
    · cases h
theorem kdat_ref {K : PySem.W.Frag} {n : Nat} {a : Addr} {d : PyData} (h : kdat K n (.ref a) = some d) : ∀ H, Dp K H (.ref a) d := by
  obtain ⟨x, r, k⟩ := kdat_dp n _ d h
  cases x <;> first | (cases r; done) | (obtain ⟨_, r⟩ := r; cases r) | skip
  rename_i b
  cases r
  exact k
/-! ### numbers as data -/
theorem items_lay : ∀ t : T, PyData.canLayAll0 t.items = true
  | .nil => rfl
  | .cons s e r => by
    rw [T.items]
    simp [PyData.canLay0, PyData.canLayAll0, items_lay e, items_lay r]
theorem items_depth : ∀ t : T, PyData.depthAll t.items ≤ 2 * t.height + 1
  | .nil => by simp [T.items, PyData.depthAll]
  | .cons s e r => by
    have h1 := items_depth e
    have h2 := items_depth r
    have e1 : (T.cons s e r).height = max (e.height + 1) r.height := rfl
    rw [T.items]
    simp [PyData.depthAll, PyData.depth]
    omega
theorem items_eqv : ∀ t u : T, PyData.eqvAll t.items u.items = decide (t = u)
  | .nil, .nil => by rw [T.items, PyData.eqvAll]; rfl
  | .nil, .cons s e r => by rw [T.items, T.items, PyData.eqvAll]; exact (decide_eq_false (fun q => by cases q)).symm
  | .cons s e r, .nil => by rw [T.items, T.items, PyData.eqvAll]; exact (decide_eq_false (fun q => by cases q)).symm
  | .cons s e r, .cons s' e' r' => by
    rw [T.items, T.items, PyData.eqvAll, PyData.eqv, PyData.eqvAll, PyData.eqv, PyData.eqvAll, PyData.eqv, PyData.eqvAll, items_eqv e e', items_eqv r r', Bool.eq_iff_iff]
    simp
    constructor
    · rintro ⟨⟨h1, h2⟩, h3⟩; exact ⟨h1, h2, h3⟩
    · rintro ⟨h1, h2, h3⟩; exact ⟨⟨h1, h2⟩, h3⟩
theorem data_lay (t : T) : t.data.canLay0 = true := by
  unfold T.data
  rw [PyData.canLay0]; exact items_lay t
theorem data_depth (t : T) : t.data.depth ≤ 2 * t.height + 2 := by
  unfold T.data
  rw [PyData.depth]
  have := items_depth t
  omega
theorem data_eqv (t u : T) : t.data.eqv u.data = decide (t = u) := by
  unfold T.data
  rw [PyData.eqv]; exact items_eqv t u
/-- the first eight numbers -/
def firstT : List T := [.nil, ofL [(1, .nil)], ofL [(1, ofL [(1, .nil)])], ofL [(1, ofL [(1, ofL [(1, .nil)])]), (-1, .nil)], ofL [(1, ofL [(1, ofL [(1, .nil)])])], ofL [(1, ofL [(1, ofL [(1, .nil)])]), (1, .nil)],
  ofL [(1, ofL [(1, ofL [(1, ofL [(1, .nil)])]), (-1, .nil)]), (-1, ofL [(1, .nil)])], ofL [(1, ofL [(1, ofL [(1, ofL [(1, .nil)])]), (-1, .nil)]), (-1, .nil)]]
theorem first_can : ∀ t ∈ firstT, t.can := by
  intro t h
  simp only [firstT, List.mem_cons, List.not_mem_nil, or_false] at h
  rcases h with rfl | rfl | rfl | rfl | rfl | rfl | rfl | rfl <;> simp [ofL, T.can, T.lead, T.val]
theorem first_val : firstT.map T.val = (List.range 8).map fun i : Nat => (i : Int) := by decide +kernel
theorem first_eq : firstT = (List.range 8).map fun i : Nat => toT (i : Int) := by
  apply List.ext_getElem?
  intro i
  have hv := congrArg (fun l => l[i]?) first_val
  simp only [List.getElem?_map] at hv ⊢
  cases h1 : firstT[i]? with
  | none =>
    rw [h1] at hv
    cases h2 : (List.range 8)[i]? with
    | none => rfl
    | some j => rw [h2] at hv; cases hv
  | some t =>
    rw [h1] at hv
    cases h2 : (List.range 8)[i]? with
    | none => rw [h2] at hv; cases hv
    | some j =>
      rw [h2] at hv
      have hv' : t.val = (j : Int) := Option.some.inj hv
      exact congrArg some (can_uniq (first_can t (List.mem_of_getElem? h1)) (toT_can _) (by rw [hv', toT_val]))
theorem first_at {i : Nat} (h : i < 8) : firstT[i]? = some (toT (i : Int)) := by
  rw [first_eq, List.getElem?_map, List.getElem?_range h]; rfl
def firstD : PyData := .tuple (firstT.map T.data)
/-- a written tuple -/
def TupAt (K : PySem.W.Frag) (a : Addr) : Prop := ∃ o, K.lookup a = some o ∧ o.cls = .type "tuple" ∧ o.dict = none
theorem kdat_tup {K : PySem.W.Frag} {n : Nat} {a : Addr} {d : PyData} (h : kdat K n (.ref a) = some d) : TupAt K a := by
  cases n with
  | zero => cases h
  | succ n =>
    unfold kdat at h
    split at h
    · rename_i its z sl hk
      exact ⟨_, hk, rfl, rfl⟩
    · cases h
/-- the written tuple at a is that of the first numbers -/
def FirstAt (K : PySem.W.Frag) (a : Addr) : Prop := (∀ H, Dp K H (.ref a) firstD) ∧ TupAt K a
theorem first_mk {K : PySem.W.Frag} {n : Nat} {a : Addr} (h : kdat K n (.ref a) = some firstD) : FirstAt K a := ⟨kdat_ref h, kdat_tup h⟩
theorem FirstAt.out {K : PySem.W.Frag} {a : Addr} (h : FirstAt K a) (H : Hp) : ∃ xs, SqT K H a xs ∧ ItemsR (fun t v H => NumV K H v t) firstT xs H := by
  have h1 := h.1 H
  unfold firstD at h1
  cases h1 with
  | tup hs hd =>
    rename_i xs
    refine ⟨xs, hs, ?_⟩
    have key : ∀ (l : List T) (xs : List V), DpAll K H xs (l.map T.data) → ItemsR (fun t v H => NumV K H v t) l xs H := by
      intro l
      induction l with
      | nil => intro xs h; cases h; exact .nil
      | cons t r ih =>
        intro xs h
        cases h with
        | cons g1 g2 =>
          have := ih _ g2
          refine ⟨by rw [List.length_cons, List.length_cons, this.1], fun i y a h1 h2 => ?_⟩
          cases i with
          | zero => simp at h1 h2; subst h1 h2; exact g1
          | succ i => simp at h1 h2; exact this.2 i y a h1 h2
    exact key _ _ hd
end Sk

set_option Elab.async false
set_option linter.all false
set_option maxRecDepth 100000
set_option maxHeartbeats 2000000
namespace Sk
open PySem L2 Evl
/-- a def with defaults, where it stands -/
structure DefAtD (K : PySem.W.Frag) (mg : Str → Option Value) (x : Str) (st : Stmt) (ps : List Str) (dvs : List V) (f : Addr) (fd : FuncData) : Prop where
  fn : FunD K x x (defArgs st) (defBody st) (defScope st) dvs [] f fd
  m : mg x = some (.ref f)
  b : Binds K fd ps []
  b1 : ∃ ds, Vals dvs ds ∧ Binds K fd ps ds
theorem defD_mk {K : PySem.W.Frag} {mg : Str → Option Value} {x : Str} {st : Stmt} {ps : List Str} {i : Int} {tk : Tok} {n : Nat} {f T : Addr} {oc oc2 : Value} {od od2 an : Option Addr} {osl osl2 : Array (Option Value)} {kV doc pm cdv ct : Value}
    (hl : K.lookup f = some ⟨oc, od, .func (PySem.W.fnOf x x (defArgs st) (defBody st) (defScope st) (.ref T) kV doc pm an cdv ct), osl⟩) (hT : K.lookup T = some ⟨oc2, od2, .seq #[.int i tk] n, osl2⟩) (hc : PySem.W.codeIn K cdv x = true) (hk : PySem.W.keepIn K (.ref f) = true) (hm : mg x = some (.ref f)) (hps : ps.length = 2)
    (h2 : ∀ (T : Addr) (kV doc pm : Value) (an : Option Addr) (cdv ct : Value) (us its : List Value), us.length = 2 → its.length = 1 → ∃ k, bindArgs (PySem.W.fnOf x x (defArgs st) (defBody st) (defScope st) (.ref T) kV doc pm an cdv ct) ⟨us, []⟩ = seqItems? (.ref T) >>= k ∧ k (some its.toArray) = pure (ps.zip (us ++ List.drop 1 its)))
    (h1 : ∀ (T : Addr) (kV doc pm : Value) (an : Option Addr) (cdv ct : Value) (us its : List Value), us.length = 1 → its.length = 1 → ∃ k, bindArgs (PySem.W.fnOf x x (defArgs st) (defBody st) (defScope st) (.ref T) kV doc pm an cdv ct) ⟨us, []⟩ = seqItems? (.ref T) >>= k ∧ k (some its.toArray) = pure (ps.zip (us ++ List.drop 0 its))) :
    DefAtD K mg x st ps [.int i] f (PySem.W.fnOf x x (defArgs st) (defBody st) (defScope st) (.ref T) kV doc pm an cdv ct) := by
  have F : FunD K x x (defArgs st) (defBody st) (defScope st) [.int i] [] f (PySem.W.fnOf x x (defArgs st) (defBody st) (defScope st) (.ref T) kV doc pm an cdv ct) :=
    ⟨⟨oc, od, _, kV, doc, pm, an, cdv, ct, osl, rfl, hl, hc, .inr ⟨by simp, T, _, [.int i tk], n, rfl, hT, rfl, .cons ⟨tk, rfl⟩ .nil⟩, .inl rfl⟩, hk⟩
  refine ⟨F, hm, ?_, ?_⟩
  · obtain ⟨ds, g1, g2⟩ := F.binds1 (ps := ps) 2 1 (by simp) (by rw [hps]; rfl) h2
    cases g1
    exact g2
  · exact F.binds1 (ps := ps) 1 0 (by simp) (by rw [hps]; rfl) h1
theorem fn_vac {P : Program} {w : World} {K : PySem.W.Frag} {mg : Str → Option Value} {base : Heap} {CX : CXT} {k : Nat} {f : Addr} {fd : FuncData} {ps : List Str} {sp : Sp} (no : ∀ vs H Q E, ¬ sp vs H Q E) : FnOk P w K mg base CX k f fd ps sp := ⟨fun vs H Q E h => absurd h (no vs H Q E), fun A outer s H args us vs Q E _ _ _ _ h => absurd h (no vs H Q E)⟩
end Sk

set_option Elab.async false
set_option linter.all false
set_option maxRecDepth 100000
set_option maxHeartbeats 1000000
namespace Sk
open PySem L2 Evl PySem.Spec PyProof.Rows
/-! ### C.m(e, ..), m a def of the class at C -/
def tCFn (C : Addr) (sp : Sp) (E : XK) (t : TA) : TE := fun σ H Q => t σ H fun vs H2 => sp vs H2 Q E
section
variable {X : Cx} {CX : CXT} {k : Nat} {C g : Addr} {fd : FuncData} {ps : List Str} {mc : Value} {sp : Sp} {E : XK} {e : Expr} {es : List Expr} {x m : Str} {pos apos p : Pos} {t : TA} {pl : Sem Bool}
theorem pe_cfn (hg : Gl X x) (hm : X.mg x = some (.ref C)) (r : ClX.CRead X.K C mc) (c : ClX.CVal X.K C mc m (.ref g) (.ref g)) (kp : PySem.W.keepIn X.K (.ref g) = true) (F : FnOk X.prog X.w X.K X.mg X.base CX k g fd ps sp) (hr : Room k X.A) (hb : Binds X.K fd ps []) (hx : Passes CX X E) (ha : PA X (e :: es) t)
    (hdb : (x == ("__debug__" : Str)) = false := by decide)
    (hst : starEach (e :: es) X.env = (false, eval e X.env) :: starEach es X.env := by rfl) (hpl : (backTo pos (starEach es X.env)).any (·.1) = false := by rfl)
    (ht : eval (.Call (.Attribute (.Name x p) m apos) (e :: es) [] pos) X.env = (do
      let ov ← eval (.Name x p) X.env
      standAt apos.atName
      let (f, first) ← holding [ov] (getMethod ov m pl)
      callWith pos f first (backTo pos (starEach (e :: es) X.env)) (backToKw pos (keywordEach [] X.env))) := by rfl) :
    PE X (.Call (.Attribute (.Name x p) m apos) (e :: es) [] pos) (tCFn C sp E t) := by
  refine ⟨fun pins s σ H Q I h => ?_⟩
  refine PySem.W.methodCall_KW (pl := pl) (ld_glob I hg hm ?_ hdb) ht
  refine PySem.W.method_cls (I.tok _).kIn r.ga (ClX.getcval_ok (I.tok _) r c fun s2 I2 => ?_)
  refine PySem.W.callWith_K (h₀ := X.base) I.ok.mod.kin kp (thn (ha.run pos pins s2 σ H _ I2 h) fun us s1 ⟨vs, H1, I1, r, q⟩ => ⟨I1.kIn, ?_⟩) hst hpl
  exact run_fn F hr hb .nil hx I1 r (by rw [List.append_nil]; exact q)
end
/-- ReckonError.__init__(self, why, word) -/
def sp_rinit (K : PySem.W.Frag) : Sp := fun vs H Q _ => ∃ (a C : Addr) (u : V) (w : Str), vs = [.ref a, u, .str w] ∧ OexC K C ∧ PySem.W.findIn K (.ref C) "word" = some none ∧ H a = some (exo a C none) ∧ ∀ dx, H dx = none → dx ≠ a → Q .non (upd (upd H dx (exd dx [("word", .str w)])) a (exo a C (some dx)))
def t_rinit (K : PySem.W.Frag) : TS := tSeq (tDrop (tVeI K (tCons (tVar 0) (tCons (tVar 1) tNil)))) (tOst K "word" (tVar 0) (tVar 2))
theorem pure_rinit {K : PySem.W.Frag} {vs : List V} {H : Hp} {Q : VK} {E : XK} (h : sp_rinit K vs H Q E) : t_rinit K { nx := fun _ H' => Q .non H', rt := Q } (start ["self", "why", "word"] vs) H := by
  obtain ⟨a, C, u, w, rfl, T, hw, ha, k⟩ := h
  refine ⟨.ref a, rfl, u, rfl, a, C, [u], rfl, (by show 1 ≤ 1000; omega), T, ha, ?_⟩
  exact ⟨.str w, rfl, .ref a, rfl, a, C, rfl, T, hw, .inl ⟨ha, fun dx h1 h2 => k dx h1 h2⟩⟩
/-- X.__init__(self, why) -/
def sp_cinit (K : PySem.W.Frag) (w : Str) : Sp := fun vs H Q _ => ∃ (a C : Addr) (u : V), vs = [.ref a, u] ∧ OexC K C ∧ PySem.W.findIn K (.ref C) "word" = some none ∧ H a = some (exo a C none) ∧ ∀ dx, H dx = none → dx ≠ a → Q .non (upd (upd H dx (exd dx [("word", .str w)])) a (exo a C (some dx)))
def t_cinit (K : PySem.W.Frag) (aR : Addr) (w : Str) : TS := tDrop (tCFn aR (sp_rinit K) E0 (tCons (tVar 0) (tCons (tVar 1) (tCons (tC (.str w)) tNil))))
theorem pure_cinit {K : PySem.W.Frag} {aR : Addr} {w : Str} {vs : List V} {H : Hp} {Q : VK} {E : XK} (h : sp_cinit K w vs H Q E) : t_cinit K aR w { nx := fun _ H' => Q .non H', rt := Q } (start ["self", "why"] vs) H := by
  obtain ⟨a, C, u, rfl, T, hw, ha, k⟩ := h
  exact ⟨.ref a, rfl, u, rfl, a, C, u, w, rfl, T, hw, ha, fun dx h1 h2 => k dx h1 h2⟩
/-- an own error class that is raised: how it is made -/
structure ErrC (P : Program) (w : World) (K : PySem.W.Frag) (mg : Str → Option Value) (base : Heap) (x : Str) (C : Addr) : Prop where
  m : mg x = some (.ref C)
  T : OexC K C
  nm : nameIn K C = some x
  hw : PySem.W.findIn K (.ref C) "word" = some none
  i : ∃ (fI : Addr) (fd : FuncData), PySem.W.findIn K (.ref C) "__init__" = some (some (.ref fI)) ∧ PySem.W.typeIn K (.ref fI) = some (.type "function") ∧ Binds K fd ["self", "why"] [] ∧ FnOk P w K mg base CX0 2 fI fd ["self", "why"] (sp_cinit K (wordOf x))
section
variable {X : Cx} {C : Addr} {x m : Str} {j : Nat} {p p2 pos pos' : Pos}
theorem pmk_err (T : ErrC X.prog X.w X.K X.mg X.base x C) (hr : Room 3 X.A) (hg : Gl X x) (hdb : (x == ("__debug__" : Str)) = false := by decide) :
    PMk X (.Call (.Name x p) [.Constant (.str m) j p2] [] pos) (fun _ H Q => ∀ H', Ex H H' → ∀ d, ErrAt X.K C d H' → Q (.ref C) (some d) H') := by
  obtain ⟨fI, fd, h1, h2, h3, F⟩ := T.i
  intro pins s σ H Q I h
  refine pmk_oex T.T h1 h2 F hr h3 .nil (fun _ _ _ _ _ _ _ h => h.elim) hg T.m (pa_cons (pe_str (x := m)) pa_nil) hdb rfl rfl pins s σ H Q I ?_
  refine ⟨(by show 1 ≤ 1000; omega), fun a ha => ⟨a, C, .str m, rfl, T.T, T.hw, upd_same, fun dx hd hne => ⟨rfl, dx, [("word", .str (wordOf x))], upd_same, ?_, ?_, ?_⟩⟩⟩
  · rw [upd_ne hne, upd_same]
  · rw [upd_ne hne] at hd; exact hd
  · rw [upd_ne hne] at hd
    refine h _ (fun b o hb => ?_) dx ⟨x, T.nm, upd_same⟩
    have hb1 : b ≠ dx := fun z => by rw [z, hd] at hb; cases hb
    have hb2 : b ≠ a := fun z => by rw [z, ha] at hb; cases hb
    rw [upd_ne hb1, del_ne hb2, upd_ne hb2, upd_ne hb1, upd_ne hb2]
    exact hb
theorem ps_err {E : XK} {W : WX} (hc : X.calm = true) (tk : Takes X W) (hW : W = fun cls d _ H => E cls d H) (T : ErrC X.prog X.w X.K X.mg X.base x C) (hr : Room 3 X.A) (hg : Gl X x) (hdb : (x == ("__debug__" : Str)) = false := by decide) :
    PS X (.Raise (some (.Call (.Name x p) [.Constant (.str m) j p2] [] pos)) none pos') (tRaise X.K E C) := by
  subst hW
  exact ps_raise hc tk (pmk_err T hr hg hdb)
end
/-! ### what the text says of the errors' classes -/
section
variable {P : Program} {w : World} {K : PySem.W.Frag} {mg : Str → Option Value} {base : Heap} {x qual : Str} {st : Stmt} {f T C : Addr} {oc oc2 : Value} {od od2 an : Option Addr} {osl osl2 : Array (Option Value)} {kV doc pm cdv ct : Value} {n : Nat} {tk tk2 : Tok} {e1 e2 : Str}
theorem init_mk1 (hl : K.lookup f = some ⟨oc, od, .func (PySem.W.fnOf x qual (defArgs st) (defBody st) (defScope st) (.ref T) kV doc pm an cdv ct), osl⟩) (hT : K.lookup T = some ⟨oc2, od2, .seq #[.str e1 tk] n, osl2⟩) (hc : PySem.W.codeIn K cdv qual = true) (hk : PySem.W.keepIn K (.ref f) = true) :
    FunD K x qual (defArgs st) (defBody st) (defScope st) [.str e1] [] f (PySem.W.fnOf x qual (defArgs st) (defBody st) (defScope st) (.ref T) kV doc pm an cdv ct) :=
  ⟨⟨oc, od, _, kV, doc, pm, an, cdv, ct, osl, rfl, hl, hc, .inr ⟨by simp, T, _, [.str e1 tk], n, rfl, hT, rfl, .cons ⟨tk, rfl⟩ .nil⟩, .inl rfl⟩, hk⟩
theorem init_mk2 (hl : K.lookup f = some ⟨oc, od, .func (PySem.W.fnOf x qual (defArgs st) (defBody st) (defScope st) (.ref T) kV doc pm an cdv ct), osl⟩) (hT : K.lookup T = some ⟨oc2, od2, .seq #[.str e1 tk, .str e2 tk2] n, osl2⟩) (hc : PySem.W.codeIn K cdv qual = true) (hk : PySem.W.keepIn K (.ref f) = true) :
    FunD K x qual (defArgs st) (defBody st) (defScope st) [.str e1, .str e2] [] f (PySem.W.fnOf x qual (defArgs st) (defBody st) (defScope st) (.ref T) kV doc pm an cdv ct) :=
  ⟨⟨oc, od, _, kV, doc, pm, an, cdv, ct, osl, rfl, hl, hc, .inr ⟨by simp, T, _, [.str e1 tk, .str e2 tk2], n, rfl, hT, rfl, .cons ⟨tk, rfl⟩ (.cons ⟨tk2, rfl⟩ .nil)⟩, .inl rfl⟩, hk⟩
theorem binds_full {l : List V} {fd : FuncData} {ps : List Str} (h : ∃ ds, Vals l ds ∧ Binds K fd ps ds) (hl : l = []) : Binds K fd ps [] := by
  subst hl
  obtain ⟨ds, h1, h2⟩ := h
  cases h1
  exact h2
theorem oex_mk {nm q : Str} {N : Addr} {bs bm sub : List Value} {sn : List Str} {ab : Bool} {col : Option Bool} {dd : Option Addr} {k0 k1 k2 k3 k5 : Option Value} (hl : K.lookup C = some (excClassObj nm q C N bs bm true sn sub ab col dd k0 k1 k2 k3 k5 "ValueError.__new__")) (hr : PySem.HandSPX.refsVE bm = true)
    (sa : PySem.W.findIn K (.ref C) "__setattr__" = some (some (.builtin "object.__setattr__"))) (A : ClsAt K mg x C) : OexC K C ∧ nameIn K C = some nm :=
  ⟨⟨⟨_, _, _, _, _, _, _, _, _, _, _, _, _, _, _, hl, hr⟩, sa, A.sb, A.ty, A.k⟩, by unfold nameIn PySem.W.clsIn; rw [hl] <;> rfl⟩
end
end Sk

set_option Elab.async false
set_option linter.all false
set_option maxRecDepth 100000
set_option maxHeartbeats 2000000
namespace Sk
open PySem L2 Evl
/-! ### signed_places -/
def pSigned : V → Hp → VP → Prop := fun x H R => ∃ (n : Int) (k : Nat), x = .int n ∧ k ≤ 70000 ∧ n.natAbs ≤ 2 ^ k ∧ R = ListR PairI (naf n 0)
def sp_signed_places (K : PySem.W.Frag) : Sp := spF1 pSigned
/-- n & -n -/
def xLow : R2 := fun x y H Q => ∃ (k : Nat) (a : Int), x = .int (2 ^ k * (2 * a + 1)) ∧ y = .int (-(2 ^ k * (2 * a + 1))) ∧ Q (.int (2 ^ k)) H
theorem op_low {X : Cx} : OpR X (binaryOp .BitAnd) xLow := fun pins s σ H x y v u Q I rx ry h => by
  obtain ⟨k, a, rfl, rfl, q⟩ := h
  rw [← PySem.W.kbt_low k a] at q
  exact op_and pins s σ H _ _ v u Q I rx ry ⟨_, _, rfl, rfl, q⟩
def t_signed_places (K : PySem.W.Frag) : TS := (tSeq (tAsg (tLst tNil) (gName 1))
    (tSeq (tAsg (tC (.int 0)) (gName 2))
    (tSeq (tWhile (tTest (tOp rNe (tVar 0) (tC (.int 0)))) (tSeq (tAsg (tOp xSub (tBits (tOp xLow (tVar 0) (tUn xNeg (tVar 0)))) (tC (.int 1))) (gName 3))
    (tSeq (tAug 2 (tVar 3) (ipI fun i j => i + j))
    (tSeq (tAug 0 (tVar 3) xShr)
    (tSeq (tAsg (tOp xSub (tC (.int 2)) (tOp xAndM (tVar 0) (tC (.int 3)))) (gName 4))
    (tSeq (tDrop (tBM K "list" rAppend (tVar 1) (tCons (tTup (tCons (tVar 4) (tCons (tVar 2) tNil))) tNil)))
    (tAug 0 (tVar 4) (ipI fun i j => i - j))))))))
    (tRet (tVar 1)))))
theorem naf_len : ∀ (k : Nat) (n : Int) (p : Nat), n.natAbs ≤ 2 ^ k → (naf n p).length ≤ k + 1
  | 0, n, p, h => by
    have h' : n = 0 ∨ n = 1 ∨ n = -1 := by simp at h; omega
    rcases h' with rfl | rfl | rfl
    · rw [naf_zero]; exact Nat.zero_le _
    · rw [naf_odd (by decide), show ((1 : Int) - (2 - 1 % 4)) / 2 = 0 by decide, naf_zero]; exact Nat.le_refl _
    · rw [naf_odd (by decide), show ((-1 : Int) - (2 - -1 % 4)) / 2 = 0 by decide, naf_zero]; exact Nat.le_refl _
  | k + 1, n, p, h => by
    rw [Nat.pow_succ] at h
    rcases Int.emod_two_eq n with q | q
    · rw [naf_even q]
      exact Nat.le_trans (naf_len k (n / 2) (p + 1) (by omega)) (by omega)
    · rw [naf_odd q, List.length_cons]
      have h1 : 0 < 2 ^ k := Nat.two_pow_pos k
      exact Nat.succ_le_succ (naf_len k _ (p + 1) (by omega))
theorem naf_shift (m : Int) : ∀ (k p : Nat), naf (2 ^ k * m) p = naf m (p + k)
  | 0, p => by rw [Int.pow_zero, Int.one_mul]; rfl
  | k + 1, p => by
    have e : (2 : Int) ^ (k + 1) * m = 2 * (2 ^ k * m) := by rw [Int.pow_succ, Int.mul_comm (2 ^ k) 2, Int.mul_assoc]
    rw [e, naf_even (by omega)]
    have e2 : 2 * (2 ^ k * m) / 2 = 2 ^ k * m := by omega
    rw [e2, naf_shift m k (p + 1)]
    congr 1
    omega
theorem odd_part : ∀ (j : Nat) (n : Int), n.natAbs ≤ j → n ≠ 0 → ∃ (k : Nat) (a : Int), n = 2 ^ k * (2 * a + 1)
  | 0, n, h, h0 => absurd (by omega) h0
  | j + 1, n, h, h0 => by
    rcases Int.emod_two_eq n with q | q
    · obtain ⟨k, a, e⟩ := odd_part j (n / 2) (by omega) (by omega)
      refine ⟨k + 1, a, ?_⟩
      rw [Int.pow_succ, Int.mul_comm (2 ^ k) 2, Int.mul_assoc, ← e]
      omega
    · exact ⟨0, n / 2, by rw [Int.pow_zero, Int.one_mul]; omega⟩
theorem ip_shr {X : Cx} : PIp X .RShift xShr := fun pins s σ H x y v u Q I r1 r2 h => iop_shr pins s σ H x y v u Q I r1 r2 h
theorem bits_two_pow (k : Nat) : Builtin.Int.intBits ((2 : Int) ^ k) = k + 1 := by
  unfold Builtin.Int.intBits
  have h : ((2 : Int) ^ k).natAbs = 2 ^ k := by rw [Int.natAbs_pow]; rfl
  have h0 : (2 : Int) ^ k ≠ 0 := Int.pow_ne_zero (by decide)
  rw [h, Nat.log2_two_pow]
  split
  · rename_i q
    have : (2 : Nat) ^ k ≠ 0 := Nat.pos_iff_ne_zero.mp (Nat.two_pow_pos k)
    simp at q
    first | exact absurd q h0 | exact absurd q this
  · rfl
theorem q_shr {σ : L2.St} {H : Hp} {D : Ends} {tz : TS} {i : Nat} {a : Int} {k : Nat} {te : TE} (hx : σ[i]? = some (some (.int a))) (h : Ev te σ H (.int (k : Int))) (n : ∀ H1, Ex H H1 → tz D (σ.set i (some (.int (a / 2 ^ k)))) H1) : tSeq (tAug i te xShr) tz D σ H :=
  ⟨.int a, hx, h H (Ex.refl H) _ fun H1 e => ⟨a, (k : Int), rfl, rfl, by omega, n H1 e⟩⟩
def WSigned (n : Int) (l : Addr) (H0 : Hp) (m : Nat) (σ : L2.St) (H : Hp) : Prop := ∃ (r : Int) (p : Nat) (z z' : Option V) (ys : List V) (acc : List (Int × Nat)),
  σ = [some (.int r), some (.ref l), some (.int (p : Int)), z, z'] ∧ m = (naf r p).length ∧ H0 l = none ∧ Ex H0 H ∧ H l = some (.lst ys) ∧ ItemsR PairI acc ys H ∧ acc ++ naf r p = naf n 0
theorem pure_signed_places {K : PySem.W.Frag} {vs : List V} {H : Hp} {Q : VK} {E : XK} (h : sp_signed_places K vs H Q E) : t_signed_places K { nx := fun _ H' => Q .non H', rt := Q } (start ["value", "found", "place", "zeros", "sign"] vs) H := by
  obtain ⟨x, R, rfl, ⟨n, kb, rfl, hkb, hb, rfl⟩, k⟩ := h
  have hlen := naf_len _ n 0 hb
  refine q_asgL (el_lst ea_nil (by decide)) fun l H1 hl e1 h1 => ?_
  refine q_asg ev_c fun H2 e2 => ?_
  refine q_while' (WSigned n l H) (naf n 0).length ⟨n, 0, none, none, [], [], rfl, rfl, hl, e1.trans e2, e2 l _ h1, .nil, rfl⟩ ?_
  rintro m σ' H' ⟨r, p, z, z', ys, acc, rfl, rfl, hl0, e3, h3, h4, h5⟩
  refine ⟨!decide (V.int r = V.int 0), et_test (ev_ne (ev_var rfl) ev_c rfl), fun hb1 H4 e4 => ?_, fun hb1 H4 e4 => ?_⟩
  · have hr : r ≠ 0 := fun q => by subst q; simp at hb1
    obtain ⟨kk, a, hra⟩ := odd_part _ r (Nat.le_refl _) hr
    have hys : ys.length < 100000 := by
      have := congrArg List.length h5
      rw [List.length_append, ← h4.1] at this
      omega
    have hodd : (2 * a + 1) % 2 = 1 := by omega
    have hnaf : naf r p = (2 - (2 * a + 1) % 4, p + kk) :: naf (2 * a + 1 - (2 - (2 * a + 1) % 4)) (p + kk) := by
      rw [hra, naf_shift, naf_odd hodd, naf_even (n := 2 * a + 1 - (2 - (2 * a + 1) % 4)) (by omega)]
    have hq : r / 2 ^ kk = 2 * a + 1 := by
      rw [hra]
      exact Int.mul_ediv_cancel_left _ (Int.pow_ne_zero (by decide))
    have low : Ev (tOp xLow (tVar 0) (tUn xNeg (tVar 0))) [some (V.int r), some (.ref l), some (.int (p : Int)), z, z'] H4 (.int (2 ^ kk)) := ev_op (ev_var rfl) (ev_neg (ev_var rfl)) fun H1 _ Q q => ⟨kk, a, by rw [hra], by rw [hra], q H1 (Ex.refl H1)⟩
    refine q_asg (v := .int (kk : Int)) (ev_is (ev_sub (ev_bits low) ev_c) (by rw [bits_two_pow]; congr 1; omega)) fun H5 e5 => ?_
    refine q_aug (a := (p : Int)) (b := (kk : Int)) rfl (ev_var rfl) fun H6 e6 => ?_
    refine q_shr (a := r) (k := kk) rfl (ev_var rfl) fun H7 e7 => ?_
    rw [hq]
    refine q_asg (ev_sub ev_c (ev_andM (k := 2) (ev_var rfl) ev_c)) fun H8 e8 => ?_
    have e48 : Ex H' H8 := e4.trans (e5.trans (e6.trans (e7.trans e8)))
    refine q_appU (ys := [.int (2 - (2 * a + 1) % 2 ^ 2), .int ((p : Int) + (kk : Int))]) (e48 l _ h3) (ev_var rfl) (eu_tup (ea_cons (ev_var rfl) (ea_cons (ev_var rfl) ea_nil)) (by show 2 ≤ 100000; decide)) hys fun q H9 hq9 e9 h9 => ?_
    have e49 := e48.trans e9
    have hlt : TEx H9 (upd H9 l (.lst (ys ++ [V.ref q]))) := TEx.put (e49 l _ h3)
    have e22 : (2 : Int) ^ 2 = 4 := by decide
    have hnl : q ≠ l := fun e => by rw [e, e49 l _ h3] at h9; cases h9
    refine s_aug (a := 2 * a + 1) (b := 2 - (2 * a + 1) % 2 ^ 2) rfl (ev_var rfl) fun H10 e10 => ?_
    refine ⟨(naf (2 * a + 1 - (2 - (2 * a + 1) % 4)) (p + kk)).length, by rw [hnaf, List.length_cons]; exact Nat.lt_succ_self _, 2 * a + 1 - (2 - (2 * a + 1) % 4), p + kk, some (.int (kk : Int)), some (.int (2 - (2 * a + 1) % 2 ^ 2)), ys ++ [V.ref q], acc ++ [(2 - (2 * a + 1) % 4, p + kk)], by rw [e22]; rfl, rfl, hl0, (Ex.mut (e3.trans e49) hl0).trans e10, e10 l _ upd_same, ?_, by rw [← h5, hnaf, List.append_assoc]; rfl⟩
    refine ItemsR.tex pairI (H := upd H9 l (.lst (ys ++ [V.ref q]))) ?_ (Ex.t e10)
    exact (h4.tex pairI ((Ex.t e49).trans hlt)).snoc ⟨q, rfl, by rw [upd_ne hnl, h9, e22]; rfl⟩
  · have hr : r = 0 := by simpa using hb1
    subst hr
    rw [naf_zero, List.append_nil] at h5
    subst h5
    refine s_ret (ev_var rfl) fun H5 e5 => k _ _ ((e3.trans e4).trans e5) ⟨l, ys, rfl, e5 l _ (e4 l _ h3), h4.tex pairI (Ex.t (e4.trans e5))⟩
end Sk

set_option Elab.async false
set_option linter.all false
set_option maxRecDepth 100000
set_option maxHeartbeats 2000000
namespace Sk
open PySem L2 Evl
/-! ### bare_number -/
/-- how great a number may be for d calls, one in another -/
def Cb : Nat → Nat
  | 0 => 0
  | 1 => 1
  | d + 2 => 2 ^ (Cb (d + 1) - 1) + 1
theorem Cb_pos : ∀ d, 1 ≤ Cb (d + 1)
  | 0 => Nat.le_refl _
  | d + 1 => Nat.le_add_left 1 _
theorem Cb_step {d : Nat} {n : Int} (h : n.natAbs < Cb (d + 1)) {x : Int × Nat} (hx : x ∈ naf n 0) : x.2 < Cb d := by
  cases d with
  | zero =>
    have : n = 0 := by
      have : n.natAbs < 1 := h
      omega
    subst this; rw [naf_zero] at hx; cases hx
  | succ d =>
    have h' : n.natAbs < 2 ^ (Cb (d + 1) - 1) + 1 := h
    have := naf_le (m := Cb (d + 1) - 1) (by omega) hx
    have := Cb_pos d
    omega
theorem Cb7 : Cb 7 = 2 ^ 65536 + 1 := by
  have h3 : Cb 3 = 3 := by decide
  have h4 : Cb 4 = 5 := by show 2 ^ (Cb 3 - 1) + 1 = 5; rw [h3] <;> rfl
  have h5 : Cb 5 = 17 := by show 2 ^ (Cb 4 - 1) + 1 = 17; rw [h4] <;> rfl
  have h6 : Cb 6 = 65537 := by show 2 ^ (Cb 5 - 1) + 1 = 65537; rw [h5] <;> rfl
  show 2 ^ (Cb 6 - 1) + 1 = 2 ^ 65536 + 1
  rw [h6]
theorem Cb7_ge : 2 ^ 65536 ≤ Cb 7 := by
  rw [Cb7]
  exact Nat.le_add_right _ _
theorem lt_Cb7 {m k : Nat} (h : m < 2 ^ k) (hk : k ≤ 65536) : m < Cb 7 := Nat.lt_of_lt_of_le h (Nat.le_trans (Nat.pow_le_pow_right (by decide) hk) Cb7_ge)
theorem Cb_mono : ∀ d, Cb d ≤ Cb (d + 1)
  | 0 => by decide
  | 1 => by decide
  | d + 2 => by
    have h := Cb_mono (d + 1)
    show 2 ^ (Cb (d + 1) - 1) + 1 ≤ 2 ^ (Cb (d + 2) - 1) + 1
    exact Nat.succ_le_succ (Nat.pow_le_pow_right (by decide) (Nat.sub_le_sub_right h 1))
theorem Cb_le : ∀ {d : Nat}, d ≤ 7 → Cb d ≤ 2 ^ 65536 + 1 := fun {d} h => by
  rw [← Cb7]
  have : ∀ k, Cb d ≤ Cb (d + k) := fun k => by
    induction k with
    | zero => exact Nat.le_refl _
    | succ k ih => exact Nat.le_trans ih (Cb_mono _)
  have h2 := this (7 - d)
  rw [show d + (7 - d) = 7 by omega] at h2
  exact h2
def pBare (K : PySem.W.Frag) (d : Nat) : V → Hp → VP → Prop := fun x H R => ∃ n : Int, x = .int n ∧ n.natAbs < Cb d ∧ d ≤ 7 ∧ R = fun v H' => NumV K H' v (toT n)
def sp_bare_number (K : PySem.W.Frag) (d : Nat) : Sp := spF1 (pBare K d)
def t_bare_number (K : PySem.W.Frag) (a_FIRST_NUMBERS : Addr) (d : Nat) : TS := (tSeq (tIfS (tTest (tChain xLe xLt (tC (.int 0)) (tVar 0) (tC (.int 8)))) (tRet (tOp (rIxT K) (tC (.ref a_FIRST_NUMBERS)) (tVar 0))) tNext)
    (tRet (tThen (tLc (iList K (tRevL K (tCall (sp_signed_places K) [] E0 (tCons (tVar 0) tNil)))) (gTup K 2 (gCons (gName 1) (gCons (gName 2) gNil))) tYes (tTup (tCons (tVar 1) (tCons (tCall (sp_bare_number K d) [] E0 (tCons (tVar 2) tNil)) tNil))) [1, 2]) (kTup K))))
/-- a term: a sign and a number -/
def TermI (K : PySem.W.Frag) (x : Int × T) : VP := fun v H => ∃ q w, v = .ref q ∧ SqT K H q [.int x.1, w] ∧ NumV K H w x.2
theorem termI {K : PySem.W.Frag} (x : Int × T) : MonoT (TermI K x) := fun v H H' e ⟨q, w, h1, h2, h3⟩ => ⟨q, w, h1, tex_sqt e h2, h3.tex e⟩
theorem termIm {K : PySem.W.Frag} {x : Int × T} : Mono (TermI K x) := (termI x).mono
theorem terms_items {K : PySem.W.Frag} {l : List (Int × T)} {ys : List V} {H : Hp} (h : ItemsR (TermI K) l ys H) : TermsV K H ys (ofL l) :=
  TermsV.of h.1 fun i x s e h1 h2 => by
    obtain ⟨q, w, g1, g2, g3⟩ := h.2 i x (s, e) h1 h2
    exact ⟨q, w, g1, g2, g3⟩
theorem items_terms {K : PySem.W.Frag} {t : T} {ys : List V} {H : Hp} (h : TermsV K H ys t) : ItemsR (TermI K) t.toL ys H :=
  ⟨h.len, fun i y x h1 h2 => by
    obtain ⟨p, s, e, w, g1, g2, g3, g4⟩ := h.get h1
    rw [h2] at g2
    cases g2
    exact ⟨p, w, g1, g3, g4⟩⟩
section
variable {K : PySem.W.Frag} {σ : L2.St} {H : Hp} {te tl : TE} {g : TG} {vs : List Nat}
/-- a comprehension over a list whose items stand for l, its own items standing for l too -/
theorem er_lcI {α : Type} {R1 R2 : α → VP} {l : List α} (hsrc : ER tl σ H (fun v H2 => ∃ a xs, v = .ref a ∧ SqL K H2 a xs ∧ ItemsR R1 l xs H2)) (m1 : ∀ a, Mono (R1 a)) (m2 : ∀ a, MonoT (R2 a)) (hz : l.length < 100000)
    (hb : ∀ (i : Nat) (a : α) x H1, l[i]? = some a → R1 a x H1 → Ex H H1 → ∀ Qk : VK, (∀ v H2, Ex H1 H2 → R2 a v H2 → Qk v H2) → g x (wipe σ vs) H1 fun σ2 H2 => wipe σ2 vs = wipe σ vs ∧ te σ2 H2 Qk) :
    ER (tLc (iList K tl) g tYes te vs) σ H (fun v H2 => ∃ p ys, v = .ref p ∧ H p = none ∧ H2 p = some (.lst ys) ∧ ItemsR R2 l ys H2) :=
  (er_lcL (S := fun xs H2 => ItemsR R1 l xs H2) (R := fun xs i v H2 => ∀ a, l[i]? = some a → R2 a v H2) hsrc (fun _ _ _ e h => h.ex m1 e) (fun xs H2 h => by rw [h.1]; exact hz) (fun xs i v H1 H2 e h a ha => m2 a v H1 H2 e (h a ha))
    (fun xs i x H1 hi e hS Qk q => by
      obtain ⟨a, ha, r⟩ := hS.of_at hi
      exact hb i a x H1 ha r e Qk fun v H2 e2 r2 => q v H2 e2 fun b hb => by rw [ha] at hb; cases hb; exact r2)).imp
    fun v H2 e ⟨p, xs, ys, h1, h2, h3, h4, h5, h6⟩ => ⟨p, ys, h1, h2, h3, h5.trans h4.1, fun i y a g1 g2 => h6 i y g1 a g2⟩
theorem er_lcIT {α : Type} {R1 R2 : α → VP} {l : List α} (hsrc : ER tl σ H (fun v H2 => ∃ a xs, v = .ref a ∧ SqT K H2 a xs ∧ ItemsR R1 l xs H2)) (m1 : ∀ a, Mono (R1 a)) (m2 : ∀ a, MonoT (R2 a)) (hz : l.length < 100000)
    (hb : ∀ (i : Nat) (a : α) x H1, l[i]? = some a → R1 a x H1 → Ex H H1 → ∀ Qk : VK, (∀ v H2, Ex H1 H2 → R2 a v H2 → Qk v H2) → g x (wipe σ vs) H1 fun σ2 H2 => wipe σ2 vs = wipe σ vs ∧ te σ2 H2 Qk) :
    ER (tLc (iTup K tl) g tYes te vs) σ H (fun v H2 => ∃ p ys, v = .ref p ∧ H p = none ∧ H2 p = some (.lst ys) ∧ ItemsR R2 l ys H2) :=
  (er_lcT (S := fun xs H2 => ItemsR R1 l xs H2) (R := fun xs i v H2 => ∀ a, l[i]? = some a → R2 a v H2) hsrc (fun _ _ _ e h => h.ex m1 e) (fun xs H2 h => by rw [h.1]; exact hz) (fun xs i v H1 H2 e h a ha => m2 a v H1 H2 e (h a ha))
    (fun xs i x H1 hi e hS Qk q => by
      obtain ⟨a, ha, r⟩ := hS.of_at hi
      exact hb i a x H1 ha r e Qk fun v H2 e2 r2 => q v H2 e2 fun b hb => by rw [ha] at hb; cases hb; exact r2)).imp
    fun v H2 e ⟨p, xs, ys, h1, h2, h3, h4, h5, h6⟩ => ⟨p, ys, h1, h2, h3, h5.trans h4.1, fun i y a g1 g2 => h6 i y g1 a g2⟩
/-- tuple(e), e a list -/
theorem er_tupleOf {R : List V → Hp → Prop} (h : ER te σ H (fun v H2 => ∃ p ys, v = .ref p ∧ SqL K H2 p ys ∧ R ys H2)) (m : MonoL R) : ER (tThen te (kTup K)) σ H (fun v H2 => ∃ p ys, v = .ref p ∧ H2 p = some (.tup ys) ∧ R ys H2) := fun H1 e Q q =>
  h H1 e _ fun v H2 e2 ⟨p, ys, h1, h2, h3⟩ => .inl ⟨p, ys, h1, h2, fun r hr => q _ _ (e2.trans (Ex.new hr)) ⟨r, ys, rfl, upd_same, m ys _ _ (Ex.new hr) h3⟩⟩
theorem er_revL {R : List V → Hp → Prop} (h : ER te σ H (fun v H2 => ∃ p ys, v = .ref p ∧ SqL K H2 p ys ∧ R ys H2)) (m : MonoL R) : ER (tRevL K te) σ H (fun v H2 => ∃ p ys, v = .ref p ∧ SqL K H2 p ys.reverse ∧ R ys H2) := fun H1 e Q q =>
  h H1 e _ fun v H2 e2 ⟨p, ys, h1, h2, h3⟩ => ⟨p, ys, h1, h2, fun r hr => q _ _ (e2.trans (Ex.new hr)) ⟨r, ys, rfl, sq_of upd_same, m ys _ _ (Ex.new hr) h3⟩⟩
end
theorem et_chainI {K : PySem.W.Frag} {σ : L2.St} {H : Hp} {ta tb tc : TE} {i j k : Int} (ha : Ev ta σ H (.int i)) (hb : Ev tb σ H (.int j)) (hc : Ev tc σ H (.int k)) : EvT (tTest (tChain xLe xLt ta tb tc)) σ H (decide (i ≤ j) && decide (j < k)) := fun H1 e Q q =>
  ha H1 e _ fun H2 e2 => hb H2 (e.trans e2) _ fun H3 e3 => ⟨i, j, rfl, rfl, decide (i ≤ j), rfl, by
    by_cases h : i ≤ j
    · rw [if_pos (decide_eq_true h)]
      refine hc H3 (e.trans (e2.trans e3)) _ fun H4 e4 => ⟨j, k, rfl, rfl, decide (j < k), rfl, ?_⟩
      have := q H4 (e2.trans (e3.trans e4))
      rw [decide_eq_true h, Bool.true_and] at this
      exact this
    · rw [if_neg (by rw [decide_eq_false h]; decide)]
      refine ⟨false, rfl, ?_⟩
      have := q H3 (e2.trans e3)
      rw [decide_eq_false h, Bool.false_and] at this
      exact this⟩
theorem pure_bare_number {K : PySem.W.Frag} {a_FIRST_NUMBERS : Addr} (hF : FirstAt K a_FIRST_NUMBERS) {d : Nat} {vs : List V} {H : Hp} {Q : VK} {E : XK} (h : sp_bare_number K (d + 1) vs H Q E) : t_bare_number K a_FIRST_NUMBERS d { nx := fun _ H' => Q .non H', rt := Q } (start ["value", "sign", "place"] vs) H := by
  obtain ⟨x, R, rfl, ⟨n, rfl, hb, hd, rfl⟩, k⟩ := h
  have hn : n.natAbs ≤ 2 ^ 65536 := by have := Cb_le hd; omega
  have hlen := naf_len _ n 0 hn
  refine q_when (et_chainI (K := K) ev_c (ev_var rfl) ev_c) (fun hc H0 e0 => ?_) (fun hc H0 e0 => ?_)
  · rw [Bool.and_eq_true, decide_eq_true_eq, decide_eq_true_eq] at hc
    obtain ⟨m, rfl⟩ : ∃ m : Nat, n = (m : Int) := ⟨n.toNat, by omega⟩
    obtain ⟨xs, hs, hit⟩ := hF.out H0
    obtain ⟨y, hy, hN⟩ := hit.at (first_at (i := m) (by omega))
    exact s_ret (ev_atT ev_c (ev_var rfl) hs (atI_nat hy)) fun H1 e1 => k _ _ (e0.trans e1) (NumV.ex hN e1)
  refine s_retR (er_tupleOf (R := fun ys H2 => ItemsR (TermI K) ((naf n 0).reverse.map fun x : Int × Nat => (x.1, toT (x.2 : Int))) ys H2) ?_ (fun ys H1 H2 e h => h.tex termI (Ex.t e))) fun v H1 e1 ⟨p, ys, hv, h1, h2⟩ => k v H1 (e0.trans e1) ?_
  · refine (er_lcI (R1 := PairI) (R2 := fun x : Int × Nat => TermI K (x.1, toT (x.2 : Int))) (l := (naf n 0).reverse) ?_ (fun a => (pairI a).mono) (fun a => termI _) (by rw [List.length_reverse]; omega) ?_).imp ?_
    · refine (er_revL (R := fun ys H2 => ItemsR PairI (naf n 0) ys H2) ((er_call1 (R1 := fun v _ => v = .int n) (er_is (ev_var rfl)) monoC fun v H1 e hv => ⟨n, 65536, hv, by decide, hn, rfl⟩).imp ?_) (fun ys H1 H2 e h => h.tex pairI (Ex.t e))).imp fun v H1 e ⟨p, ys, hv, h1, h2⟩ => ⟨p, _, hv, h1, h2.rev⟩
      exact fun v H1 e h => by
        obtain ⟨p, ys, hv, h1, h2⟩ := h
        exact ⟨p, ys, hv, sq_of h1, h2⟩
    · rintro i ⟨s, pl⟩ x H1 hi ⟨q, rfl, hq⟩ e1 Qk kk
      refine g_pair (st_of hq) ⟨rfl, ?_⟩
      have hm : (s, pl) ∈ naf n 0 := List.mem_reverse.mp (List.mem_of_getElem? hi)
      have hp : ((pl : Nat) : Int).natAbs < Cb d := by have := Cb_step hb hm; simpa using this
      refine (er_tup (ea_two (R := fun v _ => v = .int s) (R' := fun v H2 => NumV K H2 v (toT (pl : Int))) (er_is (ev_var rfl)) monoC (er_call1 (R1 := fun v _ => v = .int (pl : Int)) (er_is (ev_var rfl)) monoC fun v H2 e2 hv => ⟨pl, hv, hp, by omega, rfl⟩) (numT.mono))
        (fun vs H2 H3 e ⟨v, w, h1, h2, h3⟩ => ⟨v, w, h1, h2, h3.ex e⟩) (fun vs H2 ⟨v, w, h1, _⟩ => by rw [h1]; show 2 ≤ 100000; omega)) H1 (Ex.refl H1) _ fun v H2 e2 ⟨p, vs, hv, h1, u, w, h2, h3, h4⟩ => kk v H2 e2 ⟨p, w, hv, st_of (by rw [h1, h2, h3]), h4⟩
    · exact fun v H1 e ⟨p, ys, hv, h1, h2, h3⟩ => ⟨p, ys, hv, sq_of h2, by rw [List.length_map]; exact h3.1, fun i y a g1 g2 => by
        rw [List.getElem?_map] at g2
        cases hq : (naf n 0).reverse[i]? with
        | none => rw [hq] at g2; cases g2
        | some z => rw [hq] at g2; cases g2; exact h3.2 i y z g1 hq⟩
  · rw [hv, toT_eq]
    exact NumV.mk (st_of h1) (terms_items h2)
theorem vac_bare_number {K : PySem.W.Frag} {vs : List V} {H : Hp} {Q : VK} {E : XK} (h : sp_bare_number K 0 vs H Q E) : False := by obtain ⟨x, R, _, ⟨n, _, h, _⟩, _⟩ := h; exact Nat.not_lt_zero _ h
end Sk

set_option Elab.async false
set_option linter.all false
set_option maxRecDepth 100000
set_option maxHeartbeats 2000000
namespace Sk
open PySem L2 Evl
/-! ### value_within -/
theorem q_if {σ : L2.St} {H : Hp} {D : Ends} {t : TT} {tu tv tz : TS} {b : Bool} (h : EvT t σ H b) (h1 : b = true → ∀ H1, Ex H H1 → tu { D with nx := tz D } σ H1) (h2 : b = false → ∀ H1, Ex H H1 → tv { D with nx := tz D } σ H1) : tSeq (tIfS t tu tv) tz D σ H := s_if (D := { D with nx := tz D }) h h1 h2
/-- signs are signs, exponents are not below 0 (and lists not too long for the machine) -/
def T.nn : T → Prop
  | .nil => True
  | .cons s e r => ((s = 1 ∨ s = -1) ∧ 0 ≤ e.val ∧ e.toL.length < 100000 ∧ e.can) ∧ e.nn ∧ r.nn
theorem nn_ofL : ∀ {l : List (Int × T)}, (∀ x ∈ l, ((x.1 = 1 ∨ x.1 = -1) ∧ 0 ≤ x.2.val ∧ x.2.toL.length < 100000 ∧ x.2.can) ∧ x.2.nn) → (ofL l).nn
  | [], _ => True.intro
  | (s, e) :: r, h => ⟨(h (s, e) List.mem_cons_self).1, (h (s, e) List.mem_cons_self).2, nn_ofL fun x hx => h x (List.mem_cons_of_mem _ hx)⟩
theorem nn_toL : ∀ {t : T}, t.nn → ∀ x ∈ t.toL, ((x.1 = 1 ∨ x.1 = -1) ∧ 0 ≤ x.2.val ∧ x.2.toL.length < 100000 ∧ x.2.can) ∧ x.2.nn
  | .nil, _, x, hx => by cases hx
  | .cons s e r, h, x, hx => by
    rcases List.mem_cons.mp hx with rfl | hx
    · exact ⟨h.1, h.2.1⟩
    · exact nn_toL h.2.2 x hx
theorem toL_toT (n : Int) : (toT n).toL = (naf n 0).reverse.map fun x : Int × Nat => (x.1, toT (x.2 : Int)) := by rw [toT_eq, toL_ofL]
theorem toT_len {n : Int} {k : Nat} (h : n.natAbs ≤ 2 ^ k) : (toT n).toL.length ≤ k + 1 := by
  rw [toL_toT, List.length_map, List.length_reverse]
  exact naf_len k n 0 h
theorem lt_two_pow_self' (p : Nat) : p ≤ 2 ^ p := Nat.le_of_lt Nat.lt_two_pow_self
theorem toT_nn_aux (E : Nat) (hE : E ≤ 70000) : ∀ (k : Nat) (n : Int), n.natAbs ≤ k → n.natAbs ≤ 2 ^ E → (toT n).nn
  | k, n, hk, hb => by
    rw [toT_eq]
    refine nn_ofL fun x hx => ?_
    obtain ⟨y, hy, rfl⟩ := List.mem_map.mp hx
    have hy := List.mem_reverse.mp hy
    have hle := naf_le hb hy
    have hlt := naf_lt hy
    have h2 : y.2 ≤ 2 ^ E := Nat.le_trans (lt_two_pow_self' y.2) (Nat.pow_le_pow_right (by decide) hle)
    have h3 : (toT (y.2 : Int)).toL.length ≤ E + 1 := toT_len (k := E) (by simpa using h2)
    refine ⟨⟨naf_sign hy, by show 0 ≤ (toT (y.2 : Int)).val; rw [toT_val]; omega, by show (toT (y.2 : Int)).toL.length < 100000; omega, toT_can _⟩, ?_⟩
    cases k with
    | zero => omega
    | succ k => exact toT_nn_aux E hE k _ (by simp; omega) (by simpa using h2)
theorem toT_nn {E : Nat} (hE : E ≤ 70000) {n : Int} (h : n.natAbs ≤ 2 ^ E) : (toT n).nn := toT_nn_aux E hE _ n (Nat.le_refl _) h
theorem intBits_bl (b : Nat) : Builtin.Int.intBits (b : Int) = bl b := by
  unfold Builtin.Int.intBits bl
  by_cases h : b = 0
  · subst h; rfl
  · rw [if_neg (by simpa using h), if_neg h]; rfl
theorem bl_le (b : Nat) : bl b ≤ b := by
  unfold bl
  split
  · omega
  · rename_i h
    have h1 := Nat.log2_self_le h
    have h2 : b.log2 < 2 ^ b.log2 := Nat.lt_two_pow_self
    omega
def optV : Option Int → V
  | none => .non
  | some q => .int q
theorem T.height_mem : ∀ {t : T} {x : Int × T}, x ∈ t.toL → x.2.height < t.height
  | .nil, x, hx => by cases hx
  | .cons s e r, x, hx => by
    rcases List.mem_cons.mp hx with rfl | hx
    · show e.height < max (e.height + 1) r.height; omega
    · have := T.height_mem hx
      show x.2.height < max (e.height + 1) r.height; omega
def pWithin (K : PySem.W.Frag) (d : Nat) : V → V → Hp → VP → Prop := fun x y H R => ∃ (t : T) (b : Nat), NumV K H x t ∧ y = .int (b : Int) ∧ t.nn ∧ t.height < d ∧ b ≤ 100000 ∧ t.toL.length < 100000 ∧ R = fun v _ => v = optV (t.within b)
def sp_value_within (K : PySem.W.Frag) (d : Nat) : Sp := spF2 (pWithin K d)
def t_value_within (K : PySem.W.Frag) (a_FIRST_NUMBERS : Addr) (d : Nat) : TS := (tSeq (tAsg (tC (.int 0)) (gName 2))
    (tSeq (tFor (iTup K (tVar 0)) (gTup K 2 (gCons (gName 3) (gCons (gName 4) gNil))) (tSeq (tIfS (tTest (tOp xGe (tVar 1) (tC (.int 8)))) (tAsg (tCall (sp_value_within K d) [] E0 (tCons (tVar 4) (tCons (tBits (tVar 1)) tNil))) (gName 5)) (tIfS (tTest (tOp (rInN K) (tVar 4) (tC (.ref a_FIRST_NUMBERS)))) (tAsg (tBM K "tuple" (rIndexN K) (tC (.ref a_FIRST_NUMBERS)) (tCons (tVar 4) tNil)) (gName 5)) (tRet (tC .non))))
    (tSeq (tIfS (tOr (tTest (tOp xIsN (tVar 5) (tC .non))) (tTest (tOp xGt (tVar 5) (tVar 1)))) (tRet (tC .non)) tNext)
    (tAug 2 (tOp xShl (tVar 3) (tVar 5)) (ipI fun i j => i + j)))))
    (tRet (tVar 2))))
/-- behind i terms the total is so far what the rest is added to -/
def WWithin (v : V) (b : Nat) (t : T) (H0 : Hp) (i : Nat) (σ : L2.St) (H : Hp) : Prop := ∃ (tot : Int) (z3 z4 z5 : Option V), σ = [some v, some (.int (b : Int)), some (.int tot), z3, z4, z5] ∧ Ex H0 H ∧
  t.within b = ((ofL (t.toL.drop i)).within b).map (tot + ·)
theorem can_within {e : T} {b : Nat} (h : e.can) (h0 : 0 ≤ e.val) (hb : e.val ≤ b) : e.within (bl b) = some e.val := by
  have h1 := within_small e.val.toNat e.val.toNat (Nat.le_refl _) b (by omega)
  have e1 : ((e.val.toNat : Nat) : Int) = e.val := by omega
  rw [e1, ← can_eq h] at h1
  exact h1
theorem firstD_lay : PyData.canLayAll0 (firstT.map T.data) = true := by
  have : ∀ l : List T, PyData.canLayAll0 (l.map T.data) = true := by
    intro l
    induction l with
    | nil => rfl
    | cons t r ih => rw [List.map_cons, PyData.canLayAll0, data_lay, ih]; rfl
  exact this _
theorem firstD_depth : PyData.depthAll (firstT.map T.data) ≤ 100 := by decide +kernel
theorem first_any {e : T} (h : e.can) (h0 : 0 ≤ e.val) : (firstT.map T.data).any (fun z => PyData.eqv z e.data) = decide (e.val < 8) := by
  rw [Bool.eq_iff_iff, List.any_eq_true, decide_eq_true_eq]
  constructor
  · rintro ⟨z, hz, he⟩
    obtain ⟨t, ht, rfl⟩ := List.mem_map.mp hz
    rw [data_eqv, decide_eq_true_eq] at he
    subst he
    rw [first_eq] at ht
    obtain ⟨i, hi, rfl⟩ := List.mem_map.mp ht
    rw [toT_val]
    have := List.mem_range.mp hi
    omega
  · intro hlt
    have hm := first_at (i := e.val.toNat) (by omega)
    have e1 : ((e.val.toNat : Nat) : Int) = e.val := by omega
    rw [e1, ← can_eq h] at hm
    exact ⟨e.data, List.mem_map.mpr ⟨e, List.mem_of_getElem? hm, rfl⟩, by rw [data_eqv]; exact decide_eq_true rfl⟩
section
variable {K : PySem.W.Frag} {σ : L2.St} {H : Hp} {te : TE} {a : Addr}
theorem ev_inFirst {e : T} {w : V} {j : Nat} (hF : FirstAt K a) (hv : σ[j]? = some (some w)) (hw : NumV K H w e) (h : e.can) (h0 : 0 ≤ e.val) : Ev (tOp (rInN K) (tVar j) (tC (.ref a))) σ H (.bl (decide (e.val < 8))) := fun H1 e1 Q q =>
  ⟨w, hv, e.data, firstT.map T.data, hw.ex e1, hF.1 H1, data_lay e, firstD_lay, firstD_depth, by rw [first_any h h0]; exact q H1 (Ex.refl H1)⟩
theorem ev_indexFirst {e : T} {w : V} {j : Nat} (hF : FirstAt K a) (hv : σ[j]? = some (some w)) (hw : NumV K H w e) (h : e.can) (h0 : 0 ≤ e.val) (h8 : e.val < 8) : Ev (tBM K "tuple" (rIndexN K) (tC (.ref a)) (tCons (tVar j) tNil)) σ H (.int e.val) := fun H1 e1 Q q => by
  have hm := first_at (i := e.val.toNat) (by omega)
  have e2 : ((e.val.toNat : Nat) : Int) = e.val := by omega
  rw [e2, ← can_eq h] at hm
  refine ⟨.inr (.inl ⟨rfl, hF.2⟩), w, hv, a, w, e.data, firstT.map T.data, e.val.toNat, e.data, rfl, rfl, hF.1 H1, hw.ex e1, firstD_lay, data_lay e, firstD_depth, by rw [List.getElem?_map, hm]; rfl, by rw [data_eqv]; exact decide_eq_true rfl, ?_, by rw [e2]; exact q H1 (Ex.refl H1)⟩
  intro m z' hmj hz
  rw [List.getElem?_map, first_at (by omega)] at hz
  cases hz
  rw [data_eqv]
  refine decide_eq_false fun q => ?_
  have := congrArg T.val q
  rw [toT_val] at this
  omega
end
theorem pure_value_within {K : PySem.W.Frag} {a_FIRST_NUMBERS : Addr} (hF : FirstAt K a_FIRST_NUMBERS) {d : Nat} {vs : List V} {H : Hp} {Q : VK} {E : XK} (h : sp_value_within K (d + 1) vs H Q E) : t_value_within K a_FIRST_NUMBERS d { nx := fun _ H' => Q .non H', rt := Q } (start ["number", "bits", "total", "sign", "exponent", "place"] vs) H := by
  obtain ⟨x, y, R, rfl, ⟨t, b, hx, rfl, hnn, hh, hb, hl, rfl⟩, k⟩ := h
  obtain ⟨a, xs, rfl, hs, ht⟩ := hx.out
  have hit := items_terms ht
  refine q_asg ev_c fun H1 e1 => ?_
  refine q_forT (xs := xs) (ev_var rfl) (ex_t e1 hs) (WWithin (.ref a) b t H) (fun H2 e2 => ⟨0, none, none, none, rfl, e1.trans e2, ?_⟩) (fun i σ' H' _ ⟨_, _, _, _, _, e, _⟩ => ex_t e hs) ?_ ?_
  · rw [List.drop_zero, ofL_toL]; cases t.within b <;> simp
  · rintro i x σ' H' hi ⟨tot, z3, z4, z5, rfl, e2, hw⟩
    obtain ⟨⟨s, e⟩, hget, p, w, rfl, hp, hwv⟩ := (hit.ex (fun a => (termI a).mono) e2).of_at hi
    have hmem : (s, e) ∈ t.toL := List.mem_of_getElem? hget
    obtain ⟨⟨hsg, hev, hel, hec⟩, hen⟩ := nn_toL hnn _ hmem
    have hdrop : t.toL.drop i = (s, e) :: t.toL.drop (i + 1) := by
      have hlt : i < t.toL.length := (List.getElem?_eq_some_iff.mp hget).1
      rw [List.drop_eq_getElem_cons hlt]
      congr 1
      exact (List.getElem?_eq_some_iff.mp hget).2
    rw [hdrop, ofL, T.within] at hw
    -- an exponent above b ends it, another one goes on
    have hA : (b : Int) < e.val → t.within b = none := fun hlt => by
      rw [hw]
      cases hq : e.within (bl b) with
      | none => rfl
      | some q =>
        have hqv := within_val _ _ _ hq
        simp only
        rw [if_pos (by rw [hqv]; exact hlt)]; rfl
    have hB : e.val ≤ (b : Int) → t.within b = ((ofL (t.toL.drop (i + 1))).within b).map ((tot + s * 2 ^ e.val.toNat) + ·) := fun hle => by
      rw [hw, can_within hec hev hle]
      simp only
      rw [if_neg (by omega)]
      cases (ofL (t.toL.drop (i + 1))).within b with
      | none => rfl
      | some z => show some (tot + (s * 2 ^ e.val.toNat + z)) = some (tot + s * 2 ^ e.val.toNat + z); rw [Int.add_assoc]
    have fin : ∀ {z5 : Option V} {D : Ends} {H4 : Hp}, Ex H' H4 → D.rt = Q → (∀ σ2 H5, Ex H4 H5 → WWithin (.ref a) b t H (i + 1) σ2 H5 → D.nx σ2 H5) → tSeq (tIfS (tOr (tTest (tOp xIsN (tVar 5) (tC .non))) (tTest (tOp xGt (tVar 5) (tVar 1)))) (tRet (tC .non)) tNext)
        (tAug 2 (tOp xShl (tVar 3) (tVar 5)) (ipI fun i j => i + j)) D [some (.ref a), some (.int (b : Int)), some (.int tot), some (.int s), some w, some (.int e.val)] H4 := by
      intro z5 D H4 e4 hrt hnx
      refine q_when (b := decide ((b : Int) < e.val)) ?_ (fun hc H5 e5 => ?_) (fun hc H5 e5 => ?_)
      · exact et_is (et_or (a := false) (b := decide ((b : Int) < e.val)) (et_test (ev_is (ev_isN (ev_var rfl)) rfl)) (fun _ => et_test (ev_gt (ev_var rfl) (ev_var rfl)))) (Bool.false_or _)
      · exact s_ret ev_c fun H6 e6 => by rw [hrt]; exact k _ _ (e2.trans (e4.trans (e5.trans e6))) (by rw [hA (of_decide_eq_true hc)]; rfl)
      · have hc' : ¬ (b : Int) < e.val := of_decide_eq_false hc
        have hcp : CPow s e.val := ⟨hev, by omega, by rcases hsg with rfl | rfl <;> decide⟩
        refine s_aug (a := tot) (b := s * 2 ^ e.val.toNat) rfl (ev_shl (ev_var rfl) (ev_var rfl) hcp) fun H6 e6 => hnx _ _ (e5.trans e6) ⟨tot + s * 2 ^ e.val.toNat, _, _, _, rfl, e2.trans (e4.trans (e5.trans e6)), hB (by omega)⟩
    refine g_pair hp ?_
    refine q_if (b := decide ((8 : Int) ≤ (b : Int))) (et_test (ev_ge (ev_var rfl) ev_c)) (fun h8 H2 e2' => ?_) (fun h8 H2 e2' => ?_)
    · refine s_asgR (R := fun v _ => v = optV (e.within (bl b))) (er_call2 (R1 := fun v H => NumV K H v e) (R2 := fun v _ => v = .int (bl b : Nat)) (er_var rfl fun H1 e1 => hwv.ex (e2'.trans e1)) numT.mono ?_ monoC ?_) fun v H3 e3 hv => ?_
      · exact er_is (by rw [← intBits_bl]; exact ev_bits (ev_var rfl))
      · rintro v w' H1 e1 h1 rfl
        exact ⟨e, bl b, h1, rfl, hen, by have h := T.height_mem hmem; have h' : e.height < t.height := h; omega, Nat.le_trans (bl_le b) hb, hel, rfl⟩
      subst hv
      cases hq : e.within (bl b) with
      | none =>
        have hgt : (b : Int) < e.val := by
          apply Int.not_le.mp
          intro hle
          rw [can_within hec hev hle] at hq
          cases hq
        dsimp only
        refine q_when (b := true) ?_ (fun _ H4 e4 => ?_) (fun h => by cases h)
        · exact et_or (a := true) (b := false) (et_test (ev_is (ev_isN (ev_var rfl)) rfl)) (fun h => by cases h)
        · exact s_ret ev_c fun H5 e5 => k _ _ (e2.trans (e2'.trans (e3.trans (e4.trans e5)))) (by rw [hA hgt]; rfl)
      | some q =>
        have hqv := within_val _ _ _ hq
        subst hqv
        exact fin (z5 := z5) (e2'.trans e3) rfl fun σ2 H5 e5 h => h
    · refine s_if (b := decide (e.val < 8)) (et_test (ev_inFirst hF rfl (hwv.ex e2') hec hev)) (fun hc H3 e3 => ?_) (fun hc H3 e3 => ?_)
      · refine s_asgR (R := fun v _ => v = .int e.val) (er_is (ev_indexFirst hF rfl (hwv.ex (e2'.trans e3)) hec hev (of_decide_eq_true hc))) fun v H4 e4 hv => ?_
        subst hv
        exact fin (z5 := z5) (e2'.trans (e3.trans e4)) rfl fun σ2 H5 e5 h => h
      · have h1 := of_decide_eq_false hc
        have h2 := of_decide_eq_false h8
        exact s_ret ev_c fun H5 e5 => k _ _ (e2.trans (e2'.trans (e3.trans e5))) (by rw [hA (by omega)]; rfl)
  · rintro σ' H' ⟨tot, z3, z4, z5, rfl, e2, hw⟩
    have : t.toL.drop xs.length = [] := List.drop_eq_nil_of_le (by rw [hit.1]; exact Nat.le_refl _)
    rw [this] at hw
    refine s_ret (ev_var rfl) fun H5 e5 => k _ _ (e2.trans e5) ?_
    rw [hw]
    show V.int tot = optV (some (tot + 0))
    rw [Int.add_zero] <;> rfl
theorem vac_value_within {K : PySem.W.Frag} {vs : List V} {H : Hp} {Q : VK} {E : XK} (h : sp_value_within K 0 vs H Q E) : False := by obtain ⟨x, y, R, _, ⟨t, b, _, _, _, h, _⟩, _⟩ := h; exact Nat.not_lt_zero _ h
end Sk

set_option Elab.async false
set_option linter.all false
set_option maxRecDepth 100000
set_option maxHeartbeats 2000000
namespace Sk
open PySem L2 Evl
/-! ### trees in their form: parts, sizes, order -/
theorem mem_size : ∀ {t : T} {x : Int × T}, x ∈ t.toL → x.2.size < t.size ∧ x.2.height < t.height
  | .nil, x, h => by cases h
  | .cons s e r, x, h => by
    have e1 : (T.cons s e r).height = max (e.height + 1) r.height := rfl
    have e2 : (T.cons s e r).size = e.size + r.size := rfl
    have pos : ∀ t : T, 1 ≤ t.size := fun t => by
      induction t with
      | nil => exact Nat.le_refl _
      | cons s e r h1 h2 => show 1 ≤ e.size + r.size; omega
    have p1 := pos r
    have p2 := pos e
    rcases List.mem_cons.mp h with rfl | h
    · show e.size < _ ∧ e.height < _; omega
    · have := mem_size h; omega
theorem len_size (t : T) : t.toL.length < t.size := by
  induction t with
  | nil => exact Nat.lt_succ_self _
  | cons s e r h1 h2 =>
    show r.toL.length + 1 < e.size + r.size
    omega
theorem can_mem : ∀ {t : T}, t.can → ∀ x ∈ t.toL, x.2.can
  | .nil, _, x, hx => by cases hx
  | .cons s e r, h, x, hx => by
    rcases List.mem_cons.mp hx with rfl | hx
    · exact h.2.1
    · exact can_mem h.2.2 x hx
theorem can_sign : ∀ {t : T}, t.can → ∀ x ∈ t.toL, (x.1 = 1 ∨ x.1 = -1) ∧ 0 ≤ x.2.val
  | .nil, _, x, hx => by cases hx
  | .cons s e r, h, x, hx => by
    rcases List.mem_cons.mp hx with rfl | hx
    · exact ⟨h.1.1, h.1.2.1⟩
    · exact can_sign h.2.2 x hx
theorem can_lead : ∀ {t : T}, t.can → ∀ x ∈ t.toL, x.2.val ≤ t.lead
  | .nil, _, x, hx => by cases hx
  | .cons s e r, h, x, hx => by
    rcases List.mem_cons.mp hx with rfl | hx
    · exact Int.le_refl _
    · have := can_lead h.2.2 x hx
      have h2 := h.1.2.2
      show x.2.val ≤ e.val
      omega
theorem can_gap : ∀ {t : T}, t.can → t.toL.Pairwise (fun x y => y.2.val + 2 ≤ x.2.val)
  | .nil, _ => List.Pairwise.nil
  | .cons s e r, h => List.pairwise_cons.mpr ⟨fun x hx => by
      have := can_lead h.2.2 x hx
      have h2 := h.1.2.2
      show x.2.val + 2 ≤ e.val
      omega, can_gap h.2.2⟩
theorem nn_of_can : ∀ {t : T}, t.can → t.size < 100000 → t.nn
  | .nil, _, _ => True.intro
  | .cons s e r, h, hz => by
    have e2 : (T.cons s e r).size = e.size + r.size := rfl
    have h1 := len_size e
    have h2 := len_size r
    exact ⟨⟨h.1.1, h.1.2.1, by omega, h.2.1⟩, nn_of_can h.2.1 (by omega), nn_of_can h.2.2 (by omega)⟩
theorem val_app : ∀ l l' : List (Int × T), (ofL (l ++ l')).val = (ofL l).val + (ofL l').val
  | [], l' => by show _ = 0 + _; rw [Int.zero_add]; rfl
  | (s, e) :: l, l' => by
    show s * 2 ^ e.val.toNat + (ofL (l ++ l')).val = s * 2 ^ e.val.toNat + (ofL l).val + (ofL l').val
    rw [val_app l l']
    omega
theorem take_step {t : T} {keep : Nat} {s : Int} {e : T} (h : t.toL[keep]? = some (s, e)) : (ofL (t.toL.take (keep + 1))).val = (ofL (t.toL.take keep)).val + s * 2 ^ e.val.toNat := by
  obtain ⟨h1, h2⟩ := List.getElem?_eq_some_iff.mp h
  rw [List.take_succ_eq_append_getElem h1, val_app, h2]
  show _ + (s * 2 ^ e.val.toNat + 0) = _
  rw [Int.add_zero]

theorem can_drop {t : T} (h : t.can) (j : Nat) : (ofL (t.toL.drop j)).can :=
  can_ofL (fun x hx => ⟨(can_sign h x (List.mem_of_mem_drop hx)).1, (can_sign h x (List.mem_of_mem_drop hx)).2, can_mem h x (List.mem_of_mem_drop hx)⟩) ((can_gap h).sublist (List.drop_sublist _ _))
theorem can_take {t : T} (h : t.can) (j : Nat) : (ofL (t.toL.take j)).can :=
  can_ofL (fun x hx => ⟨(can_sign h x (List.mem_of_mem_take hx)).1, (can_sign h x (List.mem_of_mem_take hx)).2, can_mem h x (List.mem_of_mem_take hx)⟩) ((can_gap h).sublist (List.take_sublist _ _))
theorem val_cut (t : T) (j : Nat) : t.val = (ofL (t.toL.take j)).val + (ofL (t.toL.drop j)).val := by
  rw [← val_app, List.take_append_drop, ofL_toL]
theorem toL_inj {t u : T} (h : t.toL = u.toL) : t = u := by rw [← ofL_toL t, h, ofL_toL]
/-- -1, 0, 1: less, the same, greater -/
def cmpI (a b : Int) : Int := if a < b then -1 else if a = b then 0 else 1
theorem cmp_add (a x y : Int) : cmpI (a + x) (a + y) = cmpI x y := by
  unfold cmpI
  by_cases h : x < y
  · rw [if_pos h, if_pos (by omega)]
  · rw [if_neg h, if_neg (by omega)]
    by_cases h2 : x = y
    · rw [if_pos h2, if_pos (by omega)]
    · rw [if_neg h2, if_neg (by omega)]
theorem cmp_lt {x y : Int} (h : x < y) : cmpI x y = -1 := by unfold cmpI; rw [if_pos h]
theorem cmp_gt {x y : Int} (h : y < x) : cmpI x y = 1 := by unfold cmpI; rw [if_neg (by omega), if_neg (by omega)]
theorem cmp_self (x : Int) : cmpI x x = 0 := by unfold cmpI; rw [if_neg (Int.lt_irrefl _), if_pos rfl]
/-- the first terms that differ decide -/
theorem ord_diff {t u : T} {j : Nat} {s s' : Int} {e e' : T} (ht : t.can) (hu : u.can) (h : t.toL.take j = u.toL.take j) (h1 : t.toL[j]? = some (s, e)) (h2 : u.toL[j]? = some (s', e')) (hne : (s, e) ≠ (s', e')) :
    (s ≠ s' → cmpI t.val u.val = s) ∧ (s = s' → e ≠ e' ∧ cmpI t.val u.val = s * cmpI e.val e'.val) := by
  have d1 : t.toL.drop j = (s, e) :: t.toL.drop (j + 1) := by
    obtain ⟨g1, g2⟩ := List.getElem?_eq_some_iff.mp h1
    rw [List.drop_eq_getElem_cons g1, g2]
  have d2 : u.toL.drop j = (s', e') :: u.toL.drop (j + 1) := by
    obtain ⟨g1, g2⟩ := List.getElem?_eq_some_iff.mp h2
    rw [List.drop_eq_getElem_cons g1, g2]
  have c1 := can_drop ht j
  have c2 := can_drop hu j
  rw [d1] at c1
  rw [d2] at c2
  rw [val_cut t j, val_cut u j, h, cmp_add, d1, d2]
  generalize t.toL.drop (j + 1) = r at *
  generalize u.toL.drop (j + 1) = r' at *
  have p1 := can_pos c1
  have p2 := can_pos c2
  have k1 : s = 1 ∨ s = -1 := c1.1.1
  have k2 : s' = 1 ∨ s' = -1 := c2.1.1
  refine ⟨fun hs => ?_, fun hs => ?_⟩
  · show cmpI (T.cons s e (ofL r)).val (T.cons s' e' (ofL r')).val = s
    generalize (T.cons s e (ofL r)).val = x at *
    generalize (T.cons s' e' (ofL r')).val = y at *
    rcases k1 with rfl | rfl <;> rcases k2 with rfl | rfl
    · exact absurd rfl hs
    · exact cmp_gt (by omega)
    · exact cmp_lt (by omega)
    · exact absurd rfl hs
  · subst hs
    have hee : e ≠ e' := fun q => hne (by rw [q])
    refine ⟨hee, ?_⟩
    have hev : e.val ≠ e'.val := fun q => hee (can_uniq c1.2.1 c2.2.1 q)
    show cmpI (T.cons s e (ofL r)).val (T.cons s e' (ofL r')).val = _
    rcases Int.lt_or_gt_of_ne hev with q | q
    · have := (lead_lt c1 c2 q).1
      rw [cmp_lt q]
      generalize (T.cons s e (ofL r)).val = x at *
      generalize (T.cons s e' (ofL r')).val = y at *
      rcases k1 with rfl | rfl
      · rw [cmp_lt (by omega)]; rfl
      · rw [cmp_gt (by omega)]; rfl
    · have := (lead_lt c2 c1 q).1
      rw [cmp_gt q]
      generalize (T.cons s e (ofL r)).val = x at *
      generalize (T.cons s e' (ofL r')).val = y at *
      rcases k1 with rfl | rfl
      · rw [cmp_gt (by omega)]; rfl
      · rw [cmp_lt (by omega)]; rfl
/-- none differs as far as both go: the one that goes on decides -/
theorem ord_end {t u : T} {j : Nat} (ht : t.can) (hu : u.can) (h : t.toL.take j = u.toL.take j) (hne : t ≠ u) (hj : j = min t.toL.length u.toL.length) :
    (∃ s e r, t.toL.drop u.toL.length = (s, e) :: r ∧ u.toL.drop t.toL.length = [] ∧ cmpI t.val u.val = s) ∨ (∃ s e r, u.toL.drop t.toL.length = (s, e) :: r ∧ t.toL.drop u.toL.length = [] ∧ cmpI t.val u.val = -s) := by
  rcases Nat.lt_trichotomy t.toL.length u.toL.length with q | q | q
  · have ej : j = t.toL.length := by omega
    refine .inr ?_
    have hd : t.toL.drop j = [] := List.drop_eq_nil_of_le (by omega)
    have c2 := can_drop hu t.toL.length
    rw [val_cut t j, val_cut u j, h, cmp_add, hd, ← ej] at *
    cases hq : u.toL.drop j with
    | nil => have := congrArg List.length hq; rw [List.length_drop] at this; simp at this; omega
    | cons x r =>
      obtain ⟨s, e⟩ := x
      rw [hq] at c2
      refine ⟨s, e, r, rfl, List.drop_eq_nil_of_le (by omega), ?_⟩
      have p := can_pos c2
      show cmpI 0 (T.cons s e (ofL r)).val = -s
      generalize (T.cons s e (ofL r)).val = x at *
      rcases (show s = 1 ∨ s = -1 from c2.1.1) with rfl | rfl
      · exact cmp_lt (by omega)
      · exact cmp_gt (by omega)
  · exfalso
    apply hne
    apply toL_inj
    have e1 : t.toL.take j = t.toL := List.take_of_length_le (by omega)
    have e2 : u.toL.take j = u.toL := List.take_of_length_le (by omega)
    rw [← e1, h, e2]
  · have ej : j = u.toL.length := by omega
    refine .inl ?_
    have hd : u.toL.drop j = [] := List.drop_eq_nil_of_le (by omega)
    have c1 := can_drop ht u.toL.length
    rw [val_cut t j, val_cut u j, h, cmp_add, hd, ← ej] at *
    cases hq : t.toL.drop j with
    | nil => have := congrArg List.length hq; rw [List.length_drop] at this; simp at this; omega
    | cons x r =>
      obtain ⟨s, e⟩ := x
      rw [hq] at c1
      refine ⟨s, e, r, rfl, List.drop_eq_nil_of_le (by omega), ?_⟩
      have p := can_pos c1
      show cmpI (T.cons s e (ofL r)).val 0 = s
      generalize (T.cons s e (ofL r)).val = x at *
      rcases (show s = 1 ∨ s = -1 from c1.1.1) with rfl | rfl
      · exact cmp_gt (by omega)
      · exact cmp_lt (by omega)
end Sk

set_option Elab.async false
set_option linter.all false
set_option maxRecDepth 100000
set_option maxHeartbeats 2000000
namespace Sk
open PySem L2 Evl
/-! ### levels -/
def nextRow (row : List T) : List T := (row.map fun t => t.toL.map (·.2)).flatten
def levF : Nat → List T → List (List T)
  | 0, _ => []
  | k + 1, row => if row = [] then [] else row :: levF k (nextRow row)
def hrow (row : List T) : Nat := row.foldr (fun t m => max (t.height + 1) m) 0
def srow (row : List T) : Nat := (row.map T.size).sum
theorem height_le_of : ∀ {t : T} {k : Nat}, (∀ x ∈ t.toL, x.2.height + 1 ≤ k) → t.height ≤ k
  | .nil, _, _ => Nat.zero_le _
  | .cons s e r, k, h => by
    have h1 := h (s, e) List.mem_cons_self
    have h2 := height_le_of (t := r) fun x hx => h x (List.mem_cons_of_mem _ hx)
    show max (e.height + 1) r.height ≤ k
    have h1' : e.height + 1 ≤ k := h1
    omega
theorem hrow_le : ∀ {row : List T} {k : Nat}, hrow row ≤ k ↔ ∀ t ∈ row, t.height + 1 ≤ k
  | [], k => by simp [hrow]
  | t :: r, k => by
    have ih := hrow_le (row := r) (k := k)
    show max (t.height + 1) (hrow r) ≤ k ↔ _
    constructor
    · intro h x hx
      rcases List.mem_cons.mp hx with rfl | hx
      · omega
      · exact ih.mp (by omega) x hx
    · intro h
      have h1 := h t List.mem_cons_self
      have h2 := ih.mpr fun x hx => h x (List.mem_cons_of_mem _ hx)
      omega
theorem mem_next {row : List T} {e : T} : e ∈ nextRow row ↔ ∃ t ∈ row, ∃ x ∈ t.toL, x.2 = e := by
  unfold nextRow
  rw [List.mem_flatten]
  constructor
  · rintro ⟨l, hl, he⟩
    obtain ⟨t, ht, rfl⟩ := List.mem_map.mp hl
    obtain ⟨x, hx, rfl⟩ := List.mem_map.mp he
    exact ⟨t, ht, x, hx, rfl⟩
  · rintro ⟨t, ht, x, hx, rfl⟩
    exact ⟨_, List.mem_map.mpr ⟨t, ht, rfl⟩, List.mem_map.mpr ⟨x, hx, rfl⟩⟩
theorem hrow_next {row : List T} {k : Nat} : hrow row ≤ k + 1 ↔ hrow (nextRow row) ≤ k := by
  rw [hrow_le, hrow_le]
  constructor
  · intro h e he
    obtain ⟨t, ht, x, hx, rfl⟩ := mem_next.mp he
    have := h t ht
    have := T.height_mem hx
    omega
  · intro h t ht
    have : t.height ≤ k := height_le_of fun x hx => h x.2 (mem_next.mpr ⟨t, ht, x, hx, rfl⟩)
    omega
theorem levF_len : ∀ {k : Nat} {row : List T}, hrow row ≤ k → (levF k row).length = hrow row
  | 0, row, h => by show 0 = _; omega
  | k + 1, row, h => by
    by_cases hr : row = []
    · subst hr; rfl
    · unfold levF
      rw [if_neg hr, List.length_cons, levF_len (hrow_next.mp h)]
      have h1 : 1 ≤ hrow row := by
        cases row with
        | nil => exact absurd rfl hr
        | cons t r => show 1 ≤ max (t.height + 1) _; omega
      have h2 := hrow_next (row := row) (k := hrow (nextRow row)) |>.mpr (Nat.le_refl _)
      have h3 := hrow_next (row := row) (k := hrow row - 1) |>.mp (by omega)
      omega
theorem size_toL : ∀ t : T, t.size = 1 + (t.toL.map fun x => x.2.size).sum
  | .nil => rfl
  | .cons s e r => by
    show e.size + r.size = 1 + ((s, e).2.size :: r.toL.map fun x => x.2.size).sum
    rw [List.sum_cons, size_toL r]
    show e.size + _ = 1 + (e.size + _)
    omega
theorem srow_next : ∀ row : List T, srow row = row.length + srow (nextRow row)
  | [] => rfl
  | t :: r => by
    have ih := srow_next r
    show (t.size :: r.map T.size).sum = (r.length + 1) + srow (nextRow (t :: r))
    have e : srow (nextRow (t :: r)) = (t.toL.map fun x => x.2.size).sum + srow (nextRow r) := by
      show (List.map T.size (t.toL.map (·.2) ++ nextRow r)).sum = _
      rw [List.map_append, List.sum_append, List.map_map] <;> rfl
    rw [List.sum_cons, e, size_toL t]
    have : (r.map T.size).sum = srow r := rfl
    omega
theorem levF_sum : ∀ {k : Nat} {row : List T}, hrow row ≤ k → ((levF k row).map List.length).sum = srow row
  | 0, row, h => by
    have : row = [] := by
      cases row with
      | nil => rfl
      | cons t r => have : max (t.height + 1) (hrow r) ≤ 0 := h; omega
    subst this; rfl
  | k + 1, row, h => by
    by_cases hr : row = []
    · subst hr; rfl
    · unfold levF
      rw [if_neg hr, List.map_cons, List.sum_cons, levF_sum (hrow_next.mp h), ← srow_next]
theorem hrow_one (t : T) : hrow [t] = t.height + 1 := by show max (t.height + 1) 0 = _; omega
theorem srow_one (t : T) : srow [t] = t.size := by show (t.size + 0 : Nat) = t.size; omega
/-- a number that stands for t -/
def NumI (K : PySem.W.Frag) (t : T) : VP := fun v H => NumV K H v t
theorem numI {K : PySem.W.Frag} (t : T) : MonoT (NumI K t) := numT
section
variable {K : PySem.W.Frag} {H : Hp} {x0 x1 x2 x3 x4 x5 : Option V}
theorem take_snoc {α : Type} {l : List α} {i : Nat} {a : α} (h : l[i]? = some a) : l.take (i + 1) = l.take i ++ [a] := by
  have hlt : i < l.length := (List.getElem?_eq_some_iff.mp h).1
  rw [List.take_succ, h] <;> rfl
/-- [exponent for item in row for _, exponent in item] -/
theorem er_next {row : List T} {a : Addr} {xs : List V} (hv : x2 = some (.ref a)) (hs : SqL K H a xs) (hit : ItemsR (NumI K) row xs H) (hz : (nextRow row).length < 100000) :
    ER (tLc2 (iList K (tVar 2)) (gName 3) tYes (iTup K (tVar 3)) (gTup K 2 (gCons (gName 4) (gCons (gName 5) gNil))) tYes (tVar 5) [3, 4, 5] [4, 5]) [x0, x1, x2, x3, x4, x5] H
      (fun v H2 => ∃ p ys, v = .ref p ∧ H p = none ∧ H2 p = some (.lst ys) ∧ ItemsR (NumI K) (nextRow row) ys H2) := by
  intro H1 e1 Q q
  subst hv
  refine ⟨_, rfl, a, rfl, ⟨xs, ex_l e1 hs⟩, fun D hD => ?_⟩
  -- behind i numbers: the exponents of the first i
  let Pv : List T → Hp → Prop := fun done H' => H1 D = none ∧ Ex H1 H' ∧ ∃ ys, H' D = some (.lst ys) ∧ ItemsR (NumI K) done ys H'
  refine ⟨fun i m H' => m = xs.length - i ∧ i ≤ xs.length ∧ Pv (nextRow (row.take i)) H', ⟨xs.length, rfl, Nat.zero_le _, hD, Ex.new hD, [], upd_same, .nil⟩, ?_⟩
  rintro i m H' ⟨rfl, hi, p⟩
  obtain ⟨_, e2, ys, hy, hys⟩ := _root_.id p
  have hsq : SqL K H' a xs := ex_l (e1.trans e2) hs
  by_cases hlt : i < xs.length
  · refine .inr ⟨⟨xs, xs[i], hsq, by simp [hlt]⟩, Pv (nextRow (row.take (i + 1))), fun H'' p' => ⟨xs.length - (i + 1), by omega, rfl, hlt, p'⟩, fun x H'' y => ?_⟩
    obtain ⟨rfl, y⟩ := y
    have hx := y xs hsq
    obtain ⟨t, ht, hn⟩ := hit.of_at hx
    obtain ⟨b, zs, rfl, hb, htm⟩ := NumV.out hn
    have hzs := items_terms htm
    have hnx : nextRow (row.take (i + 1)) = nextRow (row.take i) ++ t.toL.map (·.2) := by
      rw [take_snoc ht]
      unfold nextRow
      rw [List.map_append, List.flatten_append] <;> simp
    refine ⟨rfl, ?_⟩
    refine ⟨_, rfl, b, rfl, ⟨zs, ex_t (e1.trans e2) hb⟩, ?_⟩
    refine ⟨fun j k H3 => k = zs.length - j ∧ j ≤ zs.length ∧ Pv (nextRow (row.take i) ++ (t.toL.take j).map (·.2)) H3, ⟨zs.length, rfl, Nat.zero_le _, by simpa using p⟩, ?_⟩
    rintro j k H3 ⟨rfl, hj, p3⟩
    obtain ⟨_, e3, us, hu, hus⟩ := _root_.id p3
    have hb3 : SqT K H3 b zs := ex_t (e1.trans e3) hb
    by_cases hjt : j < zs.length
    · refine .inr ⟨⟨zs, zs[j], hb3, by simp [hjt]⟩, Pv (nextRow (row.take i) ++ (t.toL.take (j + 1)).map (·.2)), fun H4 p' => ⟨zs.length - (j + 1), by omega, rfl, hjt, p'⟩, fun z H4 yz => ?_⟩
      obtain ⟨rfl, yz⟩ := yz
      obtain ⟨⟨s, e⟩, hse, q0, w, rfl, hq0, hw⟩ := hzs.of_at (yz zs hb3)
      refine g_pair (ex_t (e1.trans e3) hq0) ⟨rfl, ?_⟩
      unfold tYes
      refine iteT ?_
      refine ⟨w, rfl, us, hu, ?_, hD, Ex.mut e3 hD, us ++ [w], upd_same, ?_⟩
      · have hle : (nextRow (row.take i) ++ (t.toL.take j).map (·.2)).length ≤ (nextRow row).length := by
          have h1 : nextRow row = nextRow (row.take (i + 1)) ++ nextRow (row.drop (i + 1)) := by
            unfold nextRow
            rw [← List.flatten_append, ← List.map_append, List.take_append_drop]
          rw [h1, hnx, List.length_append, List.length_append, List.length_append, List.length_map, List.length_map, List.length_take]
          omega
        exact sz_lt (by rw [hus.1]; omega)
      · rw [take_snoc hse, List.map_append, ← List.append_assoc]
        have t4 : TEx H4 (upd H4 D (.lst (us ++ [w]))) := TEx.put hu
        exact (hus.tex numI t4).snoc (((NumV.ex hw (e1.trans e3)).tex t4 : NumV K _ w e))
    · have hj' : j = zs.length := by omega
      subst hj'
      refine .inl ⟨⟨zs, hb3, Nat.le_refl _⟩, ?_⟩
      show Pv _ H3
      rw [hnx]
      have : t.toL.take zs.length = t.toL := by rw [hzs.1]; exact List.take_length
      rw [this] at p3
      exact p3
  · have hi' : i = xs.length := by omega
    subst hi'
    have : row.take xs.length = row := by rw [hit.1]; exact List.take_length
    rw [this] at hys
    exact .inl ⟨⟨xs, hsq, Nat.le_refl _⟩, q _ H' e2 ⟨D, ys, rfl, fresh_back e1 hD, hy, hys⟩⟩
end
/-- a row: a list of numbers that stand for row, at another address than l -/
def RowI (K : PySem.W.Frag) (row : List T) : VP := fun v H => ∃ q zs, v = .ref q ∧ H q = some (.lst zs) ∧ ItemsR (NumI K) row zs H
def pLevels (K : PySem.W.Frag) : V → Hp → VP → Prop := fun x H R => ∃ t : T, NumV K H x t ∧ t.size < 100000 ∧ R = ListR (RowI K) (levF (t.height + 1) [t])
def sp_levels (K : PySem.W.Frag) : Sp := spF1 (pLevels K)
def t_levels (K : PySem.W.Frag) : TS := (tSeq (tAsg (tLst tNil) (gName 1))
    (tSeq (tAsg (tLst (tCons (tVar 0) tNil)) (gName 2))
    (tSeq (tWhile (tTruK K (tVar 2)) (tSeq (tDrop (tBM K "list" rAppend (tVar 1) (tCons (tVar 2) tNil)))
    (tAsg (tLc2 (iList K (tVar 2)) (gName 3) tYes (iTup K (tVar 3)) (gTup K 2 (gCons (gName 4) (gCons (gName 5) gNil))) tYes (tVar 5) [3, 4, 5] [4, 5]) (gName 2))))
    (tRet (tVar 1)))))
/-- the rows so far at l, the next row -/
def WLevels (K : PySem.W.Frag) (v : V) (t : T) (l : Addr) (H0 : Hp) (m : Nat) (σ : L2.St) (H : Hp) : Prop := ∃ (q : Addr) (z3 z4 z5 : Option V) (row : List T) (zs ys : List V) (acc : List (List T)),
  σ = [some v, some (.ref l), some (.ref q), z3, z4, z5] ∧ H0 l = none ∧ Ex H0 H ∧ q ≠ l ∧ H q = some (.lst zs) ∧ ItemsR (NumI K) row zs H ∧ H l = some (.lst ys) ∧ ItemsR (fun r v H => RowI K r v H ∧ v ≠ .ref l) acc ys H ∧
  acc ++ levF m row = levF (t.height + 1) [t] ∧ hrow row ≤ m ∧ srow row < 100000 ∧ acc.length + m ≤ t.height + 1
theorem height_le_size : ∀ t : T, t.height + 1 ≤ t.size
  | .nil => Nat.le_refl _
  | .cons s e r => by
    have h1 := height_le_size e
    have h2 := height_le_size r
    show max (e.height + 1) r.height + 1 ≤ e.size + r.size
    omega
theorem size_pos (t : T) : 1 ≤ t.size := Nat.le_trans (Nat.le_add_left 1 _) (height_le_size t)
theorem len_le_srow : ∀ row : List T, row.length ≤ srow row
  | [] => Nat.le_refl _
  | t :: r => by
    have := len_le_srow r
    have := size_pos t
    show r.length + 1 ≤ (t.size + (r.map T.size).sum : Nat)
    have : (r.map T.size).sum = srow r := rfl
    omega
theorem pure_levels {K : PySem.W.Frag} {vs : List V} {H : Hp} {Q : VK} {E : XK} (h : sp_levels K vs H Q E) : t_levels K { nx := fun _ H' => Q .non H', rt := Q } (start ["number", "rows", "row", "item", "_", "exponent"] vs) H := by
  obtain ⟨x, R, rfl, ⟨t, hx, hsz, rfl⟩, k⟩ := h
  have hhs := height_le_size t
  refine q_asgL (el_lst ea_nil (by decide)) fun l H1 hl e1 h1 => ?_
  refine q_asgL (el_lst (ea_cons (ev_var rfl) ea_nil) (by show 1 ≤ 100000; omega)) fun q H2 hq e2 h2 => ?_
  have hql : q ≠ l := fun e => by rw [e, h1] at hq; cases hq
  refine q_while' (WLevels K x t l H) (t.height + 1) ⟨q, none, none, none, [t], [x], [], [], rfl, hl, e1.trans e2, hql, h2, ?_, e2 l _ h1, .nil, rfl, by rw [hrow_one]; exact Nat.le_refl _, by rw [srow_one]; exact hsz, by simp⟩ ?_
  · exact ItemsR.snoc (l := []) (ys := []) .nil (NumV.ex hx (e1.trans e2))
  rintro m σ' H' ⟨q, z3, z4, z5, row, zs, ys, acc, rfl, hl0, e3, hql, h3, h4, h5, h6, h7, h8, h9, h10⟩
  refine ⟨!zs.isEmpty, et_truL (ev_var rfl) (sq_of h3), fun hb H4 e4 => ?_, fun hb H4 e4 => ?_⟩
  · have hrow : row ≠ [] := fun e => by
      subst e
      have : zs = [] := List.length_eq_zero_iff.mp h4.1
      subst this; cases hb
    have hm : ∃ m', m = m' + 1 := by
      cases m with
      | zero =>
        cases row with
        | nil => exact absurd rfl hrow
        | cons t r => have : max (t.height + 1) (Sk.hrow r) ≤ 0 := h8; omega
      | succ m' => exact ⟨m', rfl⟩
    obtain ⟨m', rfl⟩ := hm
    have hys : ys.length < 100000 := by rw [h6.1]; omega
    refine q_app (e4 l _ h5) (ev_var rfl) (ev_var rfl) hys fun H5 e5 => ?_
    have e45 : Ex H' H5 := e4.trans e5
    have hq6 : (upd H5 l (.lst (ys ++ [V.ref q]))) q = some (.lst zs) := by rw [upd_ne hql]; exact e45 q _ h3
    have t6 : TEx H' (upd H5 l (.lst (ys ++ [V.ref q]))) := (Ex.t e45).trans (TEx.put (e45 l _ h5))
    have hnx : srow (nextRow row) < 100000 := by have := srow_next row; omega
    refine s_asgR (er_next rfl (sq_of hq6) (h4.tex numI t6) (by have := len_le_srow (nextRow row); omega)) fun v H7 e7 ⟨p, us, hv, hp, hp7, hus⟩ => ?_
    subst hv
    have hpl : p ≠ l := fun e => by rw [e, upd_same] at hp; cases hp
    refine ⟨m', Nat.lt_succ_self _, p, _, _, _, nextRow row, us, ys ++ [V.ref q], acc ++ [row], rfl, hl0, ?_, hpl, hp7, hus, e7 l _ upd_same, ?_, ?_, hrow_next.mp h8, hnx, by rw [List.length_append]; show acc.length + 1 + m' ≤ _; omega⟩
    · exact (Ex.mut (e3.trans e45) hl0).trans e7
    · refine ItemsR.ex (R := fun r v H => RowI K r v H ∧ v ≠ .ref l) (fun r v Ha Hb e ⟨⟨q, zs, g1, g2, g3⟩, g4⟩ => ⟨⟨q, zs, g1, e q _ g2, g3.ex (fun a => (numI a).mono) e⟩, g4⟩) ?_ e7
      refine ItemsR.snoc ⟨h6.1, fun i y a g1 g2 => ?_⟩ ⟨⟨q, zs, rfl, hq6, h4.tex numI t6⟩, fun e => hql (V.ref.inj e)⟩
      obtain ⟨⟨q2, zs2, k1, k2, k3⟩, k4⟩ := h6.2 i y a g1 g2
      refine ⟨⟨q2, zs2, k1, ?_, k3.tex numI t6⟩, k4⟩
      rw [upd_ne (fun e => k4 (by rw [k1, e]))]
      exact e45 q2 _ k2
    · rw [← h7, List.append_assoc, show levF (m' + 1) row = row :: levF m' (nextRow row) from by rw [levF, if_neg hrow]]
      rfl
  · have hz : zs = [] := by
      cases zs with
      | nil => rfl
      | cons a b => cases hb
    subst hz
    have hr : row = [] := List.length_eq_zero_iff.mp (by rw [← h4.1]; rfl)
    subst hr
    have hlev : levF m ([] : List T) = [] := by cases m <;> rfl
    rw [hlev, List.append_nil] at h7
    subst h7
    refine s_ret (ev_var rfl) fun H5 e5 => k _ _ ((e3.trans e4).trans e5) ⟨l, ys, rfl, (e4.trans e5) l _ h5, ?_⟩
    exact (ItemsR.imp h6 fun a y _ h => h.1).ex (fun r v Ha Hb e ⟨q, zs, g1, g2, g3⟩ => ⟨q, zs, g1, e q _ g2, g3.ex (fun a => (numI a).mono) e⟩) (e4.trans e5)
end Sk

set_option Elab.async false
set_option linter.all false
set_option maxRecDepth 100000
set_option maxHeartbeats 2000000
namespace Sk
open PySem L2 Evl
section
variable {K : PySem.W.Frag} {σ : L2.St} {H : Hp} {te : TE}
/-- sum of a list that was just made -/
theorem ev_sum {l : List Int} (h : ER te σ H (fun v H2 => ∃ p ys, v = .ref p ∧ SqL K H2 p ys ∧ ItemsR IntI l ys H2)) : Ev (tCB (rSum K) (tCons te tNil)) σ H (.int l.sum) := fun H1 e Q q =>
  h H1 e _ fun v H2 e2 ⟨p, ys, hv, h1, h2⟩ => ⟨p, l, by rw [hv], by rw [← h2.ints]; exact h1, q H2 e2⟩
theorem ev_lenR {n : Nat} (h : ER te σ H (fun v H2 => ∃ p ys, v = .ref p ∧ (SqL K H2 p ys ∨ SqT K H2 p ys) ∧ ys.length = n)) : Ev (tCB (rLenS K) (tCons te tNil)) σ H (.int (n : Int)) := fun H1 e Q q =>
  h H1 e _ fun v H2 e2 ⟨p, ys, hv, h1, h2⟩ => ⟨p, ys, by rw [hv], h1, by rw [h2]; exact q H2 e2⟩
end
theorem rowI {K : PySem.W.Frag} (r : List T) : Mono (RowI K r) := fun v Ha Hb e ⟨q, zs, g1, g2, g3⟩ => ⟨q, zs, g1, e q _ g2, g3.ex (fun a => (numI a).mono) e⟩
theorem intI (n : Int) : MonoT (IntI n) := fun _ _ _ _ h => h
/-! ### size_of, height_of, is_allowed, allowed -/
def pSize (K : PySem.W.Frag) : V → Hp → VP → Prop := fun x H R => ∃ t : T, NumV K H x t ∧ t.size < 100000 ∧ R = fun v _ => v = .int (t.size : Int)
def sp_size_of (K : PySem.W.Frag) : Sp := spF1 (pSize K)
def t_size_of (K : PySem.W.Frag) : TS := (tRet (tCB (rSum K) (tCons (tLc (iList K (tCall (sp_levels K) [] E0 (tCons (tVar 0) tNil))) (gName 1) tYes (tCB (rLenS K) (tCons (tVar 1) tNil)) [1]) tNil)))
theorem er_levels {K : PySem.W.Frag} {σ : L2.St} {H : Hp} {x : V} {t : T} {i : Nat} (hv : σ[i]? = some (some x)) (hx : NumV K H x t) (hsz : t.size < 100000) : ER (tCall (sp_levels K) [] E0 (tCons (tVar i) tNil)) σ H (ListR (RowI K) (levF (t.height + 1) [t])) :=
  er_call1 (R1 := fun v H => NumV K H v t) (er_var hv fun H1 e1 => hx.ex e1) numT.mono fun v H1 e1 hv => ⟨t, hv, hsz, rfl⟩
theorem pure_size_of {K : PySem.W.Frag} {vs : List V} {H : Hp} {Q : VK} {E : XK} (h : sp_size_of K vs H Q E) : t_size_of K { nx := fun _ H' => Q .non H', rt := Q } (start ["number", "row"] vs) H := by
  obtain ⟨x, R, rfl, ⟨t, hx, hsz, rfl⟩, k⟩ := h
  have hlen := levF_len (k := t.height + 1) (row := [t]) (by rw [hrow_one]; exact Nat.le_refl _)
  have hsum := levF_sum (k := t.height + 1) (row := [t]) (by rw [hrow_one]; exact Nat.le_refl _)
  rw [hrow_one] at hlen
  rw [srow_one] at hsum
  have hhs := height_le_size t
  refine s_ret (ev_sum (l := (levF (t.height + 1) [t]).map fun r => (r.length : Int)) ?_) fun H1 e1 => k _ _ e1 ?_
  · refine (er_lcI (R1 := RowI K) (R2 := fun r => IntI (r.length : Int)) (l := levF (t.height + 1) [t]) ((er_levels rfl hx hsz).imp fun v H1 e ⟨p, ys, h1, h2, h3⟩ => ⟨p, ys, h1, sq_of h2, h3⟩) rowI (fun a => intI _) (by omega) ?_).imp fun v H1 e ⟨p, ys, h1, h2, h3, h4⟩ => ⟨p, ys, h1, sq_of h3, ⟨by rw [List.length_map]; exact h4.1, fun i y a g1 g2 => ?_⟩⟩
    · rintro i r x H1 hi ⟨q, zs, rfl, hq, hz⟩ e1 Qk kk
      refine ⟨rfl, ?_⟩
      refine ev_len (xs := zs) (ev_var rfl) (sq_of hq) H1 (Ex.refl _) _ fun H2 e2 => kk _ _ e2 ?_
      show V.int _ = V.int _
      rw [hz.1]
    · rw [List.getElem?_map] at g2
      cases hq : (levF (t.height + 1) [t])[i]? with
      | none => rw [hq] at g2; cases g2
      | some z => rw [hq] at g2; cases g2; exact h4.2 i y z g1 hq
  · show V.int _ = V.int _
    have e : ∀ l : List (List T), (l.map fun r => (r.length : Int)).sum = ((l.map List.length).sum : Nat) := by
      intro l
      induction l with
      | nil => rfl
      | cons a r ih => rw [List.map_cons, List.map_cons, List.sum_cons, List.sum_cons, ih]; omega
    rw [e, hsum]
def pHeight (K : PySem.W.Frag) : V → Hp → VP → Prop := fun x H R => ∃ t : T, NumV K H x t ∧ t.size < 100000 ∧ R = fun v _ => v = .int (t.height : Int)
def sp_height_of (K : PySem.W.Frag) : Sp := spF1 (pHeight K)
def t_height_of (K : PySem.W.Frag) : TS := (tRet (tOp xSub (tCB (rLenS K) (tCons (tCall (sp_levels K) [] E0 (tCons (tVar 0) tNil)) tNil)) (tC (.int 1))))
theorem pure_height_of {K : PySem.W.Frag} {vs : List V} {H : Hp} {Q : VK} {E : XK} (h : sp_height_of K vs H Q E) : t_height_of K { nx := fun _ H' => Q .non H', rt := Q } (start ["number"] vs) H := by
  obtain ⟨x, R, rfl, ⟨t, hx, hsz, rfl⟩, k⟩ := h
  have hlen := levF_len (k := t.height + 1) (row := [t]) (by rw [hrow_one]; exact Nat.le_refl _)
  rw [hrow_one] at hlen
  refine s_ret (ev_sub (ev_lenR (n := t.height + 1) ((er_levels rfl hx hsz).imp fun v H1 e ⟨p, ys, h1, h2, h3⟩ => ⟨p, ys, h1, .inl (sq_of h2), h3.1.trans hlen⟩)) ev_c) fun H1 e1 => k _ _ e1 ?_
  show V.int _ = V.int _
  congr 1
  omega
def pIsAllowed (K : PySem.W.Frag) : V → Hp → VP → Prop := fun x H R => ∃ t : T, NumV K H x t ∧ t.size < 100000 ∧ R = fun v _ => v = .bl (decide t.fits)
def sp_is_allowed (K : PySem.W.Frag) : Sp := spF1 (pIsAllowed K)
def t_is_allowed (K : PySem.W.Frag) : TS := (tSeq (tAsg (tCall (sp_levels K) [] E0 (tCons (tVar 0) tNil)) (gName 1))
    (tRet (tAndV (tOp xLe (tCB (rSum K) (tCons (tLc (iList K (tVar 1)) (gName 2) tYes (tCB (rLenS K) (tCons (tVar 2) tNil)) [2]) tNil)) (tC (.int 300))) (tOp xLe (tCB (rLenS K) (tCons (tVar 1) tNil)) (tOp xAdd (tC (.int 40)) (tC (.int 1)))))))
theorem lens_cast (l : List (List T)) : (l.map fun r => (r.length : Int)).sum = ((l.map List.length).sum : Nat) := by
  induction l with
  | nil => rfl
  | cons a r ih => rw [List.map_cons, List.map_cons, List.sum_cons, List.sum_cons, ih]; omega
theorem pure_is_allowed {K : PySem.W.Frag} {vs : List V} {H : Hp} {Q : VK} {E : XK} (h : sp_is_allowed K vs H Q E) : t_is_allowed K { nx := fun _ H' => Q .non H', rt := Q } (start ["number", "rows", "row"] vs) H := by
  obtain ⟨x, R, rfl, ⟨t, hx, hsz, rfl⟩, k⟩ := h
  have hlen := levF_len (k := t.height + 1) (row := [t]) (by rw [hrow_one]; exact Nat.le_refl _)
  have hsum := levF_sum (k := t.height + 1) (row := [t]) (by rw [hrow_one]; exact Nat.le_refl _)
  rw [hrow_one] at hlen
  rw [srow_one] at hsum
  have hhs := height_le_size t
  refine q_asgR (er_levels rfl hx hsz) fun v H1 e1 ⟨p, ys, hv, h2, h3⟩ => ?_
  subst hv
  refine s_ret (ev_andV (a := decide ((t.size : Int) ≤ 300)) (b := decide (((t.height + 1 : Nat) : Int) ≤ 40 + 1)) (ev_le (ev_is (ev_sum (l := (levF (t.height + 1) [t]).map fun r => (r.length : Int)) ?_) (by rw [lens_cast, hsum])) ev_c) fun _ => ev_le (ev_is (ev_lenL (ev_var rfl) (sq_of h2)) (by rw [h3.1, hlen])) (ev_add ev_c ev_c)) fun H2 e2 => k _ _ (e1.trans e2) ?_
  · refine (er_lcI (R1 := RowI K) (R2 := fun r => IntI (r.length : Int)) (l := levF (t.height + 1) [t]) (er_ev (ev_var rfl) fun H2 e2 => ⟨p, ys, rfl, sq_of (e2 p _ h2), h3.ex rowI e2⟩) rowI (fun a => intI _) (by omega) ?_).imp fun v H1 e ⟨p, ys, h1, h2, h3, h4⟩ => ⟨p, ys, h1, sq_of h3, ⟨by rw [List.length_map]; exact h4.1, fun i y a g1 g2 => ?_⟩⟩
    · rintro i r x H1 hi ⟨q, zs, rfl, hq, hz⟩ e1 Qk kk
      refine ⟨rfl, ?_⟩
      refine ev_len (xs := zs) (ev_var rfl) (sq_of hq) H1 (Ex.refl _) _ fun H2 e2 => kk _ _ e2 ?_
      show V.int _ = V.int _
      rw [hz.1]
    · rw [List.getElem?_map] at g2
      cases hq : (levF (t.height + 1) [t])[i]? with
      | none => rw [hq] at g2; cases g2
      | some z => rw [hq] at g2; cases g2; exact h4.2 i y z g1 hq
  · show V.bl _ = V.bl _
    congr 1
    rw [Bool.eq_iff_iff, Bool.and_eq_true, decide_eq_true_eq, decide_eq_true_eq, decide_eq_true_eq]
    unfold T.fits
    omega
def pAllowed (K : PySem.W.Frag) (CL : Addr) : V → Hp → VP → WP → Prop := fun x H R W => ∃ t : T, NumV K H x t ∧ t.size < 100000 ∧ (t.fits → ∀ v H', NumV K H' v t → R v H') ∧ (¬ t.fits → W CL)
def sp_allowed (K : PySem.W.Frag) (CL : Addr) : Sp := spX1 K (pAllowed K CL)
def t_allowed (K : PySem.W.Frag) (a_TooLarge : Addr) (E : XK) : TS := (tSeq (tIfS (tNot (tB (tCall (sp_is_allowed K) [] E0 (tCons (tVar 0) tNil)))) (tRaise K E a_TooLarge) tNext)
    (tRet (tVar 0)))
theorem pure_allowed {K : PySem.W.Frag} {CL : Addr} {vs : List V} {H : Hp} {Q : VK} {E : XK} (h : sp_allowed K CL vs H Q E) : t_allowed K CL E { nx := fun _ H' => Q .non H', rt := Q } (start ["number"] vs) H := by
  obtain ⟨x, R, W, rfl, ⟨t, hx, hsz, hR, hW⟩, k, kE⟩ := h
  refine q_when (b := !decide t.fits) (et_not (et_B (ev_er (er_call1 (R1 := fun v H => NumV K H v t) (er_var rfl fun H1 e1 => hx.ex e1) numT.mono fun v H1 e1 hv => ⟨t, hv, hsz, rfl⟩)))) (fun hc H1 e1 => ?_) (fun hc H1 e1 => ?_)
  · exact (fun Hz ez => kE CL Hz (e1.trans ez) (hW (by simpa using hc)))
  · exact s_ret (ev_var rfl) fun H2 e2 => k _ _ (e1.trans e2) (hR (by simpa using hc) _ _ (hx.ex (e1.trans e2)))
/-! ### sign_of, of_int -/
def pSign (K : PySem.W.Frag) : V → Hp → VP → Prop := fun x H R => ∃ t : T, NumV K H x t ∧ R = fun v _ => v = .int t.sgn
def sp_sign_of (K : PySem.W.Frag) : Sp := spF1 (pSign K)
def t_sign_of (K : PySem.W.Frag) : TS := (tRet (tIf (tTruK K (tVar 0)) (tOp (rIxT K) (tOp (rIxT K) (tVar 0) (tC (.int 0))) (tC (.int 0))) (tC (.int 0))))
theorem pure_sign_of {K : PySem.W.Frag} {vs : List V} {H : Hp} {Q : VK} {E : XK} (h : sp_sign_of K vs H Q E) : t_sign_of K { nx := fun _ H' => Q .non H', rt := Q } (start ["number"] vs) H := by
  obtain ⟨x, R, rfl, ⟨t, hx, rfl⟩, k⟩ := h
  obtain ⟨a, xs, rfl, hs, ht⟩ := hx.out
  refine s_ret (ev_if (et_truT (ev_var rfl) hs) (fun hc => ?_) (fun hc => ?_)) fun H1 e1 => k _ _ e1 rfl
  · cases t with
    | nil => rw [ht.nil_out] at hc; cases hc
    | cons s e r =>
      obtain ⟨p, w, ys, rfl, h1, h2, h3⟩ := ht.cons_out
      exact ev_atT (ev_atT (ev_var rfl) ev_c hs (at_of (j := 0) rfl rfl)) ev_c h1 (at_of (j := 0) rfl rfl)
  · cases t with
    | nil => exact ev_c
    | cons s e r =>
      obtain ⟨p, w, ys, rfl, h1, h2, h3⟩ := ht.cons_out
      cases hc
/-- of_int: the number, TooLarge if it is not allowed, NotAllowed if the integer is too long -/
def pOfInt (K : PySem.W.Frag) (CN CL : Addr) : V → Hp → VP → WP → Prop := fun x H R W => ∃ n : Int, x = .int n ∧
  (n.natAbs < 2 ^ 2900 → (toT n).size < 100000 ∧ ((toT n).fits → ∀ v H', NumV K H' v (toT n) → R v H') ∧ (¬ (toT n).fits → W CL)) ∧ (¬ n.natAbs < 2 ^ 2900 → W CN)
def sp_of_int (K : PySem.W.Frag) (CN CL : Addr) : Sp := spX1 K (pOfInt K CN CL)
def t_of_int (K : PySem.W.Frag) (a_NotAllowed : Addr) (a_TooLarge : Addr) (E : XK) : TS := (tSeq (tIfS (tTest (tOp xGt (tBits (tVar 0)) (tC (.int 2900)))) (tRaise K E a_NotAllowed) tNext)
    (tRet (tCall (sp_allowed K a_TooLarge) [] E (tCons (tCall (sp_bare_number K 7) [] E0 (tCons (tVar 0) tNil)) tNil))))
theorem intBits_le_iff (n : Int) (k : Nat) : Builtin.Int.intBits n ≤ k ↔ n.natAbs < 2 ^ k := by
  unfold Builtin.Int.intBits
  by_cases h : n = 0
  · subst h; simp [Nat.two_pow_pos]
  · rw [if_neg (by simpa using h)]
    have h1 : n.natAbs ≠ 0 := by omega
    constructor
    · intro h2
      exact (Nat.log2_lt h1).mp (by omega)
    · intro h2
      have := (Nat.log2_lt h1).mpr h2
      omega
theorem pure_of_int {K : PySem.W.Frag} {CN CL : Addr} {vs : List V} {H : Hp} {Q : VK} {E : XK} (h : sp_of_int K CN CL vs H Q E) : t_of_int K CN CL E { nx := fun _ H' => Q .non H', rt := Q } (start ["value"] vs) H := by
  obtain ⟨x, R, W, rfl, ⟨n, rfl, h1, h2⟩, k, kE⟩ := h
  have hbits := intBits_le_iff n 2900
  refine q_when (b := decide ((2900 : Int) < ((Builtin.Int.intBits n : Nat) : Int))) (et_test (ev_gt (ev_bits (ev_var rfl)) ev_c)) (fun hc H1 e1 => ?_) (fun hc H1 e1 => ?_)
  · have hc' := of_decide_eq_true hc
    exact (fun Hz ez => kE CN Hz (e1.trans ez) (h2 fun q => by have := hbits.mpr q; omega))
  · have hc' := of_decide_eq_false hc
    have hn : n.natAbs < 2 ^ 2900 := hbits.mp (by omega)
    obtain ⟨g1, g2, g3⟩ := h1 hn
    have hcb : n.natAbs < Cb 7 := lt_Cb7 hn (by decide)
    exact x_call1 (R1 := fun v H => NumV K H v (toT n)) (er_call1 (R1 := fun v _ => v = .int n) (er_is (ev_var rfl)) monoC fun v H2 e2 hv => ⟨n, hv, hcb, Nat.le_refl _, rfl⟩) numT.mono _ fun v H2 e2 hn2 =>
      ⟨R, W, ⟨toT n, hn2, g1, g2, g3⟩, fun w H3 e3 hw => k w H3 ((e1.trans e2).trans e3) hw, fun C H3 e3 hw => kE C H3 ((e1.trans e2).trans e3) hw⟩
end Sk

set_option Elab.async false
set_option linter.all false
set_option maxRecDepth 100000
set_option maxHeartbeats 2000000
namespace Sk
open PySem L2 Evl
def rEqN (K : PySem.W.Frag) : R2 := fun x y H Q => ∃ d e, Dp K H x d ∧ Dp K H y e ∧ d.canLay0 = true ∧ e.canLay0 = true ∧ d.depth ≤ 100 ∧ Q (.bl (d.eqv e)) H
theorem op_eqN {X : Cx} (hu : X.A.units + 150 < cLine) : OpR X (compareOp .Eq) (rEqN X.K) := fun pins s σ H x y v u Q I r1 r2 ⟨d, e, h1, h2, h3, h4, h5, q⟩ => by
  obtain ⟨as, ra⟩ := Dp.reads I d x v h1 r1
  obtain ⟨bs, rb⟩ := Dp.reads I e y u h2 r2
  exact SeqAt.compareEq_reads ra rb h3 h4 (by have := Nat.min_le_left d.depth e.depth; omega) ⟨.bl _, H, I, rfl, q⟩
def rNeN (K : PySem.W.Frag) : R2 := fun x y H Q => ∃ d e, Dp K H x d ∧ Dp K H y e ∧ d.canLay0 = true ∧ e.canLay0 = true ∧ d.depth ≤ 100 ∧ Q (.bl (!d.eqv e)) H
theorem op_neN {X : Cx} (hu : X.A.units + 150 < cLine) : OpR X (compareOp .NotEq) (rNeN X.K) := fun pins s σ H x y v u Q I r1 r2 ⟨d, e, h1, h2, h3, h4, h5, q⟩ => by
  obtain ⟨as, ra⟩ := Dp.reads I d x v h1 r1
  obtain ⟨bs, rb⟩ := Dp.reads I e y u h2 r2
  exact SeqAt.compareNe_reads ra rb h3 h4 (by have := Nat.min_le_left d.depth e.depth; omega) ⟨.bl _, H, I, rfl, q⟩

section
variable {K : PySem.W.Frag} {σ : L2.St} {H : Hp} {te tf : TE} {t u : T}
theorem ev_eqN (h : ER te σ H (fun v H2 => NumV K H2 v t)) (h' : ER tf σ H (fun v H2 => NumV K H2 v u)) (hh : t.height ≤ 48) : Ev (tOp (rEqN K) te tf) σ H (.bl (decide (t = u))) := fun H1 e Q q =>
  h H1 e _ fun v H2 e2 r1 => h' H2 (e.trans e2) _ fun w H3 e3 r2 => ⟨t.data, u.data, r1.ex e3, r2, data_lay t, data_lay u, by have := data_depth t; omega, by rw [data_eqv]; exact q H3 (e2.trans e3)⟩
theorem ev_neN (h : ER te σ H (fun v H2 => NumV K H2 v t)) (h' : ER tf σ H (fun v H2 => NumV K H2 v u)) (hh : t.height ≤ 48) : Ev (tOp (rNeN K) te tf) σ H (.bl (!decide (t = u))) := fun H1 e Q q =>
  h H1 e _ fun v H2 e2 r1 => h' H2 (e.trans e2) _ fun w H3 e3 r2 => ⟨t.data, u.data, r1.ex e3, r2, data_lay t, data_lay u, by have := data_depth t; omega, by rw [data_eqv]; exact q H3 (e2.trans e3)⟩
end
end Sk

set_option Elab.async false
set_option linter.all false
set_option maxRecDepth 100000
set_option maxHeartbeats 2000000
namespace Sk
open PySem L2 Evl
/-! ### powers of two by a modulus -/
/-- n different remainders, the next one is that of 2 ** l -/
def IsRow (m n l : Nat) : Prop := l < n ∧ 2 ^ n % m = 2 ^ l % m ∧ ∀ i j, i < j → j < n → 2 ^ i % m ≠ 2 ^ j % m
theorem distinct_le {m n : Nat} (hm : 0 < m) (h : ∀ i j, i < j → j < n → 2 ^ i % m ≠ 2 ^ j % m) : n ≤ m := by
  have nd : ((List.range n).map fun i => 2 ^ i % m).Nodup := by
    rw [List.nodup_iff_pairwise_ne, List.pairwise_map]
    refine List.Pairwise.imp_of_mem (R := fun a b => a < b) (fun {a b} ha hb hab => h a b hab (List.mem_range.mp hb)) List.pairwise_lt_range
  have := nd.length_le_of_subset (l₂ := List.range m) (fun x hx => by
    obtain ⟨i, _, rfl⟩ := List.mem_map.mp hx
    exact List.mem_range.mpr (Nat.mod_lt _ hm))
  simpa using this
theorem IsRow.le {m n l : Nat} (hm : 0 < m) (h : IsRow m n l) : n ≤ m := distinct_le hm h.2.2
theorem IsRow.uniq {m n l n' l' : Nat} (h : IsRow m n l) (h' : IsRow m n' l') : n = n' ∧ l = l' := by
  have hn : n = n' := by
    rcases Nat.lt_trichotomy n n' with q | q | q
    · exact absurd h.2.1.symm (h'.2.2 l n h.1 q)
    · exact q
    · exact absurd h'.2.1.symm (h.2.2 l' n' h'.1 q)
  subst hn
  refine ⟨rfl, ?_⟩
  have e : 2 ^ l % m = 2 ^ l' % m := h.2.1.symm.trans h'.2.1
  rcases Nat.lt_trichotomy l l' with q | q | q
  · exact absurd e (h.2.2 l l' q h'.1)
  · exact q
  · exact absurd e.symm (h.2.2 l' l q h.1)
theorem pow_mod_succ (i m : Nat) : 2 * (2 ^ i % m) % m = 2 ^ (i + 1) % m := by
  rw [Nat.pow_succ, Nat.mul_comm (2 ^ i) 2, Nat.mul_mod, Nat.mod_mod, ← Nat.mul_mod]
/-- the cycle's length is below the modulus -/
theorem IsRow.short {m n l : Nat} (hm : 1 < m) (h : IsRow m n l) : n - l < m := by
  have hle := h.le (by omega)
  rcases Nat.eq_zero_or_pos l with hl | hl
  · subst hl
    -- no remainder is 0: from 0 no way leads to 1
    have h1 : 2 ^ 0 % m = 1 := by rw [Nat.pow_zero]; exact Nat.mod_eq_of_lt hm
    have nz : ∀ i, i ≤ n → 2 ^ i % m ≠ 0 := by
      intro i hi hz
      have : ∀ k, 2 ^ (i + k) % m = 0 := fun k => by rw [Nat.pow_add, Nat.mul_mod, hz, Nat.zero_mul, Nat.zero_mod]
      have h2 := this (n - i)
      rw [show i + (n - i) = n by omega, h.2.1, h1] at h2
      omega
    have nd : ((List.range n).map fun i => 2 ^ i % m).Nodup := by
      rw [List.nodup_iff_pairwise_ne, List.pairwise_map]
      refine List.Pairwise.imp_of_mem (R := fun a b => a < b) (fun {a b} ha hb hab => h.2.2 a b hab (List.mem_range.mp hb)) List.pairwise_lt_range
    have := nd.length_le_of_subset (l₂ := (List.range (m - 1)).map (· + 1)) (fun x hx => by
      obtain ⟨i, hi, rfl⟩ := List.mem_map.mp hx
      have h3 := nz i (Nat.le_of_lt (List.mem_range.mp hi))
      have h4 := Nat.mod_lt (2 ^ i) (show 0 < m by omega)
      exact List.mem_map.mpr ⟨2 ^ i % m - 1, List.mem_range.mpr (by omega), by omega⟩)
    rw [List.length_map, List.length_map, List.length_range, List.length_range] at this
    omega
  · omega
/-- behind the lead the remainders come again -/
theorem IsRow.again {m n l : Nat} (h : IsRow m n l) (k : Nat) : ∀ i, l ≤ i → 2 ^ (i + k * (n - l)) % m = 2 ^ i % m := by
  have one : ∀ i, l ≤ i → 2 ^ (i + (n - l)) % m = 2 ^ i % m := fun i hi => by
    have e1 : i + (n - l) = n + (i - l) := by have := h.1; omega
    have e2 : i = l + (i - l) := by omega
    rw [e1, Nat.pow_add, Nat.mul_mod, h.2.1, ← Nat.mul_mod, ← Nat.pow_add, ← e2]
  induction k with
  | zero => intro i _; rw [Nat.zero_mul, Nat.add_zero]
  | succ k ih =>
    intro i hi
    rw [Nat.succ_mul, ← Nat.add_assoc, one _ (by omega), ih i hi]
theorem IsRow.turn {m n l : Nat} (h : IsRow m n l) {e : Nat} (he : l ≤ e) : 2 ^ e % m = 2 ^ (l + (e - l) % (n - l)) % m := by
  have h1 := h.again ((e - l) / (n - l)) (l + (e - l) % (n - l)) (Nat.le_add_right _ _)
  rw [← h1]
  have h2 := Nat.mod_add_div (e - l) (n - l)
  rw [Nat.mul_comm] at h2
  congr 2
  omega
def pows (m n : Nat) : List Int := (List.range n).map fun i => ((2 ^ i % m : Nat) : Int)
section
variable {K : PySem.W.Frag} {σ : L2.St} {H : Hp} {ty td tx : TE} {D : Ends} {tz : TS}
theorem ev_din {a : Addr} {kvs : List (Key × V)} {k : Int} (h1 : Ev ty σ H (.int k)) (h2 : Ev td σ H (.ref a)) (hd : H a = some (.dK kvs)) : Ev (tDIn ty td) σ H (.bl (valV kvs (Sum.inl k)).isSome) := fun H1 e Q q =>
  h1 H1 e _ fun H2 e2 => h2 H2 (e.trans e2) _ fun H3 e3 => ⟨a, _, rfl, DGet.k (k := Sum.inl k) (((e.trans e2).trans e3) a _ hd), q H3 (e2.trans e3)⟩
theorem ev_dnotin {a : Addr} {kvs : List (Key × V)} {k : Int} (h1 : Ev ty σ H (.int k)) (h2 : Ev td σ H (.ref a)) (hd : H a = some (.dK kvs)) : Ev (tDNotIn ty td) σ H (.bl (!(valV kvs (Sum.inl k)).isSome)) := fun H1 e Q q =>
  h1 H1 e _ fun H2 e2 => h2 H2 (e.trans e2) _ fun H3 e3 => ⟨a, _, rfl, DGet.k (k := Sum.inl k) (((e.trans e2).trans e3) a _ hd), q H3 (e2.trans e3)⟩
theorem ev_dget {a : Addr} {kvs : List (Key × V)} {k : Int} {v : V} (h2 : Ev td σ H (.ref a)) (h1 : Ev ty σ H (.int k)) (hd : H a = some (.dK kvs)) (hv : valV kvs (Sum.inl k) = some v) : Ev (tDGet td ty) σ H v := fun H1 e Q q =>
  h2 H1 e _ fun H2 e2 => h1 H2 (e.trans e2) _ fun H3 e3 => ⟨a, v, rfl, by rw [← hv]; exact DGet.k (k := Sum.inl k) (((e.trans e2).trans e3) a _ hd), q H3 (e2.trans e3)⟩
/-- d[k] = v -/
theorem q_dput {a : Addr} {kvs : List (Key × V)} {k : Int} {v : V} (hd : H a = some (.dK kvs)) (hv : Ev tx σ H v) (ho : Ev td σ H (.ref a)) (hi : Ev ty σ H (.int k)) (hz : kvs.length < 100000) (n : ∀ H1, Ex H H1 → tz D σ (upd H1 a (.dK (putK kvs (Sum.inl k) v)))) : tSeq (sDPut td ty tx) tz D σ H :=
  hv H (Ex.refl H) _ fun H1 e1 => ho H1 e1 _ fun H2 e2 => hi H2 (e1.trans e2) _ fun H3 e3 => ⟨a, _, rfl, DPut.k (k := Sum.inl k) (((e1.trans e2).trans e3) a _ hd) (sz_lt hz), n H3 ((e1.trans e2).trans e3)⟩
theorem s_asgD {i : Nat} (k : ∀ d H1, H d = none → Ex H H1 → H1 d = some (.dK []) → D.nx (σ.set i (some (.ref d))) H1) : tAsg tDNewK (gName i) D σ H := fun d hd => k d _ hd (Ex.new hd) upd_same
theorem q_asgD {i : Nat} (k : ∀ d H1, H d = none → Ex H H1 → H1 d = some (.dK []) → tz D (σ.set i (some (.ref d))) H1) : tSeq (tAsg tDNewK (gName i)) tz D σ H := s_asgD (D := { D with nx := tz D }) k
theorem TEx.putD {d : Addr} {kvs kvs' : List (Key × V)} (h : H d = some (.dK kvs)) : TEx H (upd H d (.dK kvs')) := fun a o e c => by
  by_cases hb : a = d
  · subst hb; rw [h] at e; cases e; exact c.elim
  · rw [upd_ne hb]; exact e
end
/-- what the dict of places says behind i powers -/
structure Plc (m i : Nat) (kvs : List (Key × V)) : Prop where
  len : kvs.length = i
  has : ∀ j, j < i → valV kvs (Sum.inl (((2 ^ j % m : Nat) : Int))) = some (.int (j : Int))
  only : ∀ k v, valV kvs (Sum.inl k) = some v → ∃ j, j < i ∧ k = ((2 ^ j % m : Nat) : Int)
  dist : ∀ a b, a < b → b < i → 2 ^ a % m ≠ 2 ^ b % m
theorem Plc.zero (m : Nat) : Plc m 0 [] := ⟨rfl, fun j h => absurd h (Nat.not_lt_zero _), fun k v h => (by cases h), fun a b _ h => absurd h (Nat.not_lt_zero _)⟩
theorem Plc.next {m i : Nat} {kvs : List (Key × V)} (h : Plc m i kvs) (hn : valV kvs (Sum.inl (((2 ^ i % m : Nat) : Int))) = none) : Plc m (i + 1) (putK kvs (Sum.inl (((2 ^ i % m : Nat) : Int))) (.int (i : Int))) := by
  have hd : ∀ a, a < i → 2 ^ a % m ≠ 2 ^ i % m := fun a ha e => by
    have := h.has a ha
    rw [e, hn] at this
    cases this
  refine ⟨by rw [putK_new _ hn, List.length_append, h.len]; rfl, fun j hj => ?_, fun k v hk => ?_, fun a b hab hb => ?_⟩
  · rw [valV_put]
    by_cases e : j = i
    · subst e; rw [if_pos rfl]
    · have hj' : j < i := by omega
      rw [if_neg (fun q => hd j hj' (by have := Sum.inl.inj q; exact_mod_cast this))]
      exact h.has j hj'
  · rw [valV_put] at hk
    split at hk
    · rename_i q
      exact ⟨i, Nat.lt_succ_self _, Sum.inl.inj q⟩
    · obtain ⟨j, h1, h2⟩ := h.only k v hk
      exact ⟨j, Nat.lt_succ_of_lt h1, h2⟩
  · rcases Nat.lt_or_eq_of_le (Nat.le_of_lt_succ hb) with q | q
    · exact h.dist a b hab q
    · subst q; exact hd a hab
theorem Plc.done {m i : Nat} {kvs : List (Key × V)} (h : Plc m i kvs) (hs : (valV kvs (Sum.inl (((2 ^ i % m : Nat) : Int)))).isSome = true) : ∃ l, IsRow m i l ∧ valV kvs (Sum.inl (((2 ^ i % m : Nat) : Int))) = some (.int (l : Int)) := by
  obtain ⟨v, hv⟩ := Option.isSome_iff_exists.mp hs
  obtain ⟨l, h1, h2⟩ := h.only _ v hv
  have h3 : 2 ^ i % m = 2 ^ l % m := by exact_mod_cast h2
  exact ⟨l, ⟨h1, h3, h.dist⟩, by rw [h3]; exact h.has l h1⟩
theorem Plc.le {m i : Nat} {kvs : List (Key × V)} (hm : 0 < m) (h : Plc m i kvs) : i ≤ m := distinct_le hm h.dist
/-! ### check_modulus, power_row -/
def pCheckMod (CN : Addr) : V → Hp → VP → WP → Prop := fun x H R W => ∃ m : Int, x = .int m ∧ (1 ≤ m ∧ m ≤ 10000 → ∀ H', R .non H') ∧ (¬ (1 ≤ m ∧ m ≤ 10000) → W CN)
def sp_check_modulus (K : PySem.W.Frag) (CN : Addr) : Sp := spX1 K (pCheckMod CN)
def t_check_modulus (K : PySem.W.Frag) (a_NotAllowed : Addr) (E : XK) : TS := (tIfS (tOr (tTest (tOp xLt (tVar 0) (tC (.int 1)))) (tTest (tOp xGt (tVar 0) (tC (.int 10000))))) (tRaise K E a_NotAllowed) tNext)
theorem pure_check_modulus {K : PySem.W.Frag} {CN : Addr} {vs : List V} {H : Hp} {Q : VK} {E : XK} (h : sp_check_modulus K CN vs H Q E) : t_check_modulus K CN E { nx := fun _ H' => Q .non H', rt := Q } (start ["m"] vs) H := by
  obtain ⟨x, R, W, rfl, ⟨m, rfl, h1, h2⟩, k, kE⟩ := h
  refine s_when (b := decide (m < 1) || decide (10000 < m)) (et_or (et_test (ev_lt (ev_var rfl) ev_c)) fun _ => et_test (ev_gt (ev_var rfl) ev_c)) (fun hc H1 e1 => ?_) (fun hc H1 e1 => ?_)
  · refine (fun Hz ez => kE CN Hz (e1.trans ez) (h2 ?_))
    simp at hc
    omega
  · refine k _ H1 e1 (h1 ?_ _)
    simp at hc
    omega
/-- a power row in the heap: the list of the powers -/
def PRow (H0 : Hp) (m : Nat) : VP := fun v H' => ∃ q p n l, v = .ref q ∧ IsRow m n l ∧ H' q = some (.tup [.ref p, .int (l : Int)]) ∧ H' p = some (.lst ((pows m n).map V.int)) ∧ H0 p = none
def pPowerRow : V → Hp → VP → Prop := fun x H R => ∃ m : Nat, x = .int (m : Int) ∧ 1 ≤ m ∧ m ≤ 10000 ∧
  ∀ v H', PRow H m v H' → R v H'
def sp_power_row (K : PySem.W.Frag) : Sp := spF1 pPowerRow
def t_power_row (K : PySem.W.Frag) : TS := (tSeq (tAsg (tLst tNil) (gName 1))
    (tSeq (tAsg tDNewK (gName 2))
    (tSeq (tAsg (tOp xMod (tC (.int 1)) (tVar 0)) (gName 3))
    (tSeq (tWhile (tB (tDNotIn (tVar 3) (tVar 2))) (tSeq (sDPut (tVar 2) (tVar 3) (tCB (rLenS K) (tCons (tVar 1) tNil)))
    (tSeq (tDrop (tBM K "list" rAppend (tVar 1) (tCons (tVar 3) tNil)))
    (tAsg (tOp xMod (tOp xMul (tC (.int 2)) (tVar 3)) (tVar 0)) (gName 3)))))
    (tRet (tTup (tCons (tVar 1) (tCons (tDGet (tVar 2) (tVar 3)) tNil))))))))
def WRow (m : Nat) (l d : Addr) (H0 : Hp) (w : Nat) (σ : L2.St) (H : Hp) : Prop := ∃ (i : Nat) (kvs : List (Key × V)),
  σ = [some (.int (m : Int)), some (.ref l), some (.ref d), some (.int ((2 ^ i % m : Nat) : Int))] ∧ w = m + 1 - i ∧ H0 l = none ∧ H0 d = none ∧ l ≠ d ∧ Ex H0 H ∧ H l = some (.lst ((pows m i).map V.int)) ∧ H d = some (.dK kvs) ∧ Plc m i kvs
theorem pows_succ (m i : Nat) : pows m (i + 1) = pows m i ++ [((2 ^ i % m : Nat) : Int)] := by
  unfold pows
  rw [List.range_succ, List.map_append] <;> rfl
theorem pows_len (m n : Nat) : (pows m n).length = n := by unfold pows; rw [List.length_map, List.length_range]
theorem pure_power_row {K : PySem.W.Frag} {vs : List V} {H : Hp} {Q : VK} {E : XK} (h : sp_power_row K vs H Q E) : t_power_row K { nx := fun _ H' => Q .non H', rt := Q } (start ["m", "powers", "places", "power"] vs) H := by
  obtain ⟨x, R, rfl, ⟨m, rfl, hm1, hm2, hR⟩, k⟩ := h
  refine q_asgL (el_lst ea_nil (by decide)) fun l H1 hl e1 h1 => ?_
  refine q_asgD fun d H2 hd e2 h2 => ?_
  have hld : l ≠ d := fun e => by rw [← e, h1] at hd; cases hd
  refine q_asg (ev_mod ev_c (ev_var rfl) (by omega)) fun H3 e3 => ?_
  have hp1 : (1 : Int) % (m : Int) = ((2 ^ 0 % m : Nat) : Int) := by rw [Nat.pow_zero]; norm_cast
  rw [hp1]
  refine q_while' (WRow m l d H) (m + 1 - 0) ⟨0, [], rfl, rfl, hl, fresh_back e1 hd, hld, (e1.trans e2).trans e3, (e2.trans e3) l _ h1, e3 d _ h2, Plc.zero m⟩ ?_
  rintro w σ' H' ⟨i, kvs, rfl, rfl, hl0, hd0, hld, e4, h4, h5, hP⟩
  have hi := hP.le (by omega)
  refine ⟨_, et_B (ev_dnotin (ev_var rfl) (ev_var rfl) h5), fun hb H5 e5 => ?_, fun hb H5 e5 => ?_⟩
  · have hn : valV kvs (Sum.inl (((2 ^ i % m : Nat) : Int))) = none := by
      cases hq : valV kvs (Sum.inl (((2 ^ i % m : Nat) : Int))) with
      | none => rfl
      | some v => rw [hq] at hb; cases hb
    have hP' := hP.next hn
    have hi' := hP'.le (by omega)
    refine q_dput (e5 d _ h5) (v := .int (i : Int)) (ev_is (ev_lenL (ev_var rfl) (sq_of (e5 l _ h4))) (by rw [List.length_map, pows_len])) (ev_var rfl) (ev_var rfl) (by rw [hP.len]; omega) fun H6 e6 => ?_
    have h46 : (upd H6 d (.dK (putK kvs (Sum.inl (((2 ^ i % m : Nat) : Int))) (.int (i : Int))))) l = some (.lst ((pows m i).map V.int)) := by rw [upd_ne hld]; exact (e5.trans e6) l _ h4
    refine q_app h46 (ev_var rfl) (ev_var rfl) (by rw [List.length_map, pows_len]; omega) fun H7 e7 => ?_
    have hdl : d ≠ l := fun e => hld e.symm
    refine s_asg (ev_mod (ev_mul ev_c (ev_var rfl) (.inl (by decide))) (ev_var rfl) (by omega)) fun H8 e8 => ⟨m + 1 - (i + 1), by omega, i + 1, _, ?_, rfl, hl0, hd0, hld, ?_, ?_, e8 d _ (by rw [upd_ne hdl]; exact e7 d _ upd_same), hP'⟩
    · have : (2 : Int) * ((2 ^ i % m : Nat) : Int) % (m : Int) = ((2 ^ (i + 1) % m : Nat) : Int) := by rw [← pow_mod_succ]; norm_cast
      rw [this] <;> rfl
    · exact (Ex.mut ((Ex.mut (e4.trans (e5.trans e6)) hd0).trans e7) hl0).trans e8
    · rw [pows_succ, List.map_append]
      exact e8 l _ upd_same
  · have hs : (valV kvs (Sum.inl (((2 ^ i % m : Nat) : Int)))).isSome = true := by
      cases hq : valV kvs (Sum.inl (((2 ^ i % m : Nat) : Int))) with
      | none => rw [hq] at hb; cases hb
      | some v => rfl
    obtain ⟨l', hr, hv⟩ := hP.done hs
    refine s_retU (eu_tup (ea_cons (ev_var rfl) (ea_cons (ev_dget (ev_var rfl) (ev_var rfl) (e5 d _ h5) hv) ea_nil)) (by show 2 ≤ 100000; omega)) fun q H6 _ e6 h6 => k _ _ (e4.trans (e5.trans e6)) (hR _ _ ⟨q, l, i, l', rfl, hr, h6, (e5.trans e6) l _ h4, hl0⟩)
end Sk

set_option Elab.async false
set_option linter.all false
set_option maxRecDepth 100000
set_option maxHeartbeats 2000000
namespace Sk
/-! ### how many terms an integer has -/
theorem naf_len_p (k : Nat) : ∀ (n : Int) (p q : Nat), n.natAbs ≤ k → (naf n p).length = (naf n q).length := by
  induction k with
  | zero =>
    intro n p q h
    have : n = 0 := by omega
    subst this; rw [naf_zero, naf_zero]
  | succ k ih =>
    intro n p q h
    by_cases h0 : n = 0
    · subst h0; rw [naf_zero, naf_zero]
    rcases Int.emod_two_eq n with e | e
    · rw [naf_even e, naf_even e]; exact ih _ _ _ (by omega)
    · rw [naf_odd e, naf_odd e, List.length_cons, List.length_cons]
      by_cases hz : (n - (2 - n % 4)) / 2 = 0
      · rw [hz, naf_zero, naf_zero]
      · rw [ih _ (p + 1) (q + 1) (by omega)]
def wt (n : Int) : Nat := (naf n 0).length
theorem wt_zero : wt 0 = 0 := by unfold wt; rw [naf_zero] <;> rfl
theorem wt_even {n : Int} (h : n % 2 = 0) : wt n = wt (n / 2) := by
  unfold wt
  rw [naf_even h]
  exact naf_len_p _ _ _ _ (Nat.le_refl _)
theorem wt_dbl (n : Int) : wt (2 * n) = wt n := by
  rw [wt_even (by omega), show 2 * n / 2 = n by omega]
theorem wt_one {n : Int} (h : n % 4 = 1) : wt n = wt ((n - 1) / 4) + 1 := by
  unfold wt
  rw [naf_odd (by omega), List.length_cons, show (n - (2 - n % 4)) / 2 = 2 * ((n - 1) / 4) by omega]
  rw [naf_len_p _ (2 * ((n - 1) / 4)) (0 + 1) 0 (Nat.le_refl _)]
  exact congrArg (· + 1) (wt_dbl _)
theorem wt_three {n : Int} (h : n % 4 = 3) : wt n = wt ((n + 1) / 4) + 1 := by
  unfold wt
  rw [naf_odd (by omega), List.length_cons, show (n - (2 - n % 4)) / 2 = 2 * ((n + 1) / 4) by omega]
  rw [naf_len_p _ (2 * ((n + 1) / 4)) (0 + 1) 0 (Nat.le_refl _)]
  exact congrArg (· + 1) (wt_dbl _)
/-- one more or less, one term more at most; beside an odd number no more than it has -/
theorem wt_near : ∀ (k : Nat) (n : Int), n.natAbs ≤ k → (wt (n + 1) ≤ wt n + 1 ∧ wt (n - 1) ≤ wt n + 1) ∧ (n % 2 = 1 → wt (n + 1) ≤ wt n ∧ wt (n - 1) ≤ wt n)
  | 0, n, h => by
    have : n = 0 := by omega
    subst this
    have h1 : wt 1 = 1 := by rw [wt_one (by decide), show ((1 : Int) - 1) / 4 = 0 by decide, wt_zero]
    have h2 : wt (-1) = 1 := by rw [wt_three (by decide), show ((-1 : Int) + 1) / 4 = 0 by decide, wt_zero]
    exact ⟨⟨by show wt 1 ≤ _; omega, by show wt (-1) ≤ _; omega⟩, fun q => absurd q (by decide)⟩
  | k + 1, n, h => by
    by_cases h0 : n = 0
    · subst h0
      exact ⟨(wt_near 0 0 (Nat.le_refl _)).1, fun q => absurd q (by decide)⟩
    have key : n % 4 = 0 ∨ n % 4 = 1 ∨ n % 4 = 2 ∨ n % 4 = 3 := by omega
    rcases key with q | q | q | q
    · have a1 : wt (n + 1) = wt (n / 4) + 1 := by rw [wt_one (by omega), show (n + 1 - 1) / 4 = n / 4 by omega]
      have a2 : wt (n - 1) = wt (n / 4) + 1 := by rw [wt_three (by omega), show (n - 1 + 1) / 4 = n / 4 by omega]
      have a3 : wt n = wt (n / 4) := by rw [wt_even (by omega), wt_even (by omega), show n / 2 / 2 = n / 4 by omega]
      exact ⟨⟨by omega, by omega⟩, fun z => absurd z (by omega)⟩
    · -- n = 4 j + 1
      have a0 : wt n = wt ((n - 1) / 4) + 1 := wt_one q
      have a1 : wt (n - 1) = wt ((n - 1) / 4) := by rw [wt_even (by omega), wt_even (by omega), show (n - 1) / 2 / 2 = (n - 1) / 4 by omega]
      have a2 : wt (n + 1) = wt (2 * ((n - 1) / 4) + 1) := by rw [wt_even (by omega), show (n + 1) / 2 = 2 * ((n - 1) / 4) + 1 by omega]
      have a3 : wt (2 * ((n - 1) / 4) + 1) ≤ wt (2 * ((n - 1) / 4)) + 1 := by
        by_cases hz : (n - 1) / 4 = 0
        · rw [hz]; exact (wt_near 0 0 (Nat.le_refl _)).1.1
        · exact (wt_near k _ (by omega)).1.1
      rw [wt_dbl] at a3
      exact ⟨⟨by omega, by omega⟩, fun _ => ⟨by omega, by omega⟩⟩
    · -- n = 4 j + 2
      have a0 : wt n = wt (n / 2) := wt_even (by omega)
      have ih := (wt_near k (n / 2) (by omega)).2 (by omega)
      have a1 : wt (n + 1) = wt ((n + 2) / 4) + 1 := by rw [wt_three (by omega), show (n + 1 + 1) / 4 = (n + 2) / 4 by omega]
      have a2 : wt (n - 1) = wt ((n - 2) / 4) + 1 := by rw [wt_one (by omega), show (n - 1 - 1) / 4 = (n - 2) / 4 by omega]
      have b1 : wt (n / 2 + 1) = wt ((n + 2) / 4) := by rw [wt_even (by omega), show (n / 2 + 1) / 2 = (n + 2) / 4 by omega]
      have b2 : wt (n / 2 - 1) = wt ((n - 2) / 4) := by rw [wt_even (by omega), show (n / 2 - 1) / 2 = (n - 2) / 4 by omega]
      exact ⟨⟨by omega, by omega⟩, fun z => absurd z (by omega)⟩
    · have a0 : wt n = wt ((n + 1) / 4) + 1 := wt_three q
      have a1 : wt (n + 1) = wt ((n + 1) / 4) := by rw [wt_even (by omega), wt_even (by omega), show (n + 1) / 2 / 2 = (n + 1) / 4 by omega]
      have a2 : wt (n - 1) = wt (2 * ((n + 1) / 4) - 1) := by rw [wt_even (by omega), show (n - 1) / 2 = 2 * ((n + 1) / 4) - 1 by omega]
      have a3 : wt (2 * ((n + 1) / 4) - 1) ≤ wt (2 * ((n + 1) / 4)) + 1 := by
        by_cases hz : (n + 1) / 4 = 0
        · rw [hz]; exact (wt_near 0 0 (Nat.le_refl _)).1.2
        · exact (wt_near k _ (by omega)).1.2
      rw [wt_dbl] at a3
      exact ⟨⟨by omega, by omega⟩, fun _ => ⟨by omega, by omega⟩⟩
theorem wt_succ (n : Int) : wt (n + 1) ≤ wt n + 1 := (wt_near _ n (Nat.le_refl _)).1.1
theorem wt_pred (n : Int) : wt (n - 1) ≤ wt n + 1 := (wt_near _ n (Nat.le_refl _)).1.2
/-- a power of two more or less -/
theorem wt_pow : ∀ (p : Nat) (n s : Int), (s = 1 ∨ s = -1) → wt (n + s * 2 ^ p) ≤ wt n + 1
  | 0, n, s, hs => by
    rw [Int.pow_zero, Int.mul_one]
    rcases hs with rfl | rfl
    · exact wt_succ n
    · exact wt_pred n
  | p + 1, n, s, hs => by
    have e : s * 2 ^ (p + 1) = 2 * (s * 2 ^ p) := by rw [Int.pow_succ, ← Int.mul_assoc, Int.mul_comm]
    rw [e]
    rcases Int.emod_two_eq n with q | q
    · rw [wt_even (n := n) q, show n + 2 * (s * 2 ^ p) = 2 * (n / 2 + s * 2 ^ p) by omega, wt_dbl]
      exact wt_pow p _ s hs
    · cases p with
      | zero =>
        rw [Int.pow_zero, Int.mul_one]
        have h4 : n % 4 = 1 ∨ n % 4 = 3 := by omega
        rcases hs with rfl | rfl <;> rcases h4 with h4 | h4
        · have a0 := wt_one h4
          have a1 : wt (n + 2 * 1) = wt ((n - 1) / 4 + 1) + 1 := by rw [wt_three (by omega), show (n + 2 * 1 + 1) / 4 = (n - 1) / 4 + 1 by omega]
          have := wt_succ ((n - 1) / 4)
          omega
        · have a0 := wt_three h4
          have a1 : wt (n + 2 * 1) = wt ((n + 1) / 4) + 1 := by rw [wt_one (by omega), show (n + 2 * 1 - 1) / 4 = (n + 1) / 4 by omega]
          omega
        · have a0 := wt_one h4
          have a1 : wt (n + 2 * -1) = wt ((n - 1) / 4) + 1 := by rw [wt_three (by omega), show (n + 2 * -1 + 1) / 4 = (n - 1) / 4 by omega]
          omega
        · have a0 := wt_three h4
          have a1 : wt (n + 2 * -1) = wt ((n + 1) / 4 - 1) + 1 := by rw [wt_one (by omega), show (n + 2 * -1 - 1) / 4 = (n + 1) / 4 - 1 by omega]
          have := wt_pred ((n + 1) / 4)
          omega
      | succ p =>
        have e2 : 2 * (s * 2 ^ (p + 1)) = 4 * (s * 2 ^ p) := by
          have h3 : s * (2 ^ p * 2) = (s * 2 ^ p) * 2 := (Int.mul_assoc _ _ _).symm
          rw [Int.pow_succ, h3]; omega
        rw [e2]
        have h4 : n % 4 = 1 ∨ n % 4 = 3 := by omega
        rcases h4 with h4 | h4
        · rw [wt_one (n := n) h4, wt_one (n := n + _) (by omega), show (n + 4 * (s * 2 ^ p) - 1) / 4 = (n - 1) / 4 + s * 2 ^ p by omega]
          have := wt_pow p ((n - 1) / 4) s hs
          omega
        · rw [wt_three (n := n) h4, wt_three (n := n + _) (by omega), show (n + 4 * (s * 2 ^ p) + 1) / 4 = (n + 1) / 4 + s * 2 ^ p by omega]
          have := wt_pow p ((n + 1) / 4) s hs
          omega
/-! ### the sizes of small integers, by reckoning -/
def placesF : Nat → Nat → Nat → List Nat
  | 0, _, _ => []
  | f + 1, n, p => if n = 0 then [] else if n % 4 = 1 then p :: placesF f ((n - 1) / 2) (p + 1) else if n % 4 = 3 then p :: placesF f ((n + 1) / 2) (p + 1) else placesF f (n / 2) (p + 1)
theorem placesF_eq : ∀ (f n p : Nat), n ≤ 2 ^ f → placesF (f + 1) n p = (naf (n : Int) p).map (·.2)
  | 0, n, p, h => by
    have h' : n = 0 ∨ n = 1 := by simp at h; omega
    rcases h' with rfl | rfl
    · rw [show ((0 : Nat) : Int) = 0 from rfl, naf_zero] <;> rfl
    · rw [show ((1 : Nat) : Int) = 1 from rfl, naf_odd (by decide), show ((1 : Int) - (2 - 1 % 4)) / 2 = 0 by decide, naf_zero] <;> rfl
  | f + 1, n, p, h => by
    rw [Nat.pow_succ] at h
    have hp : 0 < 2 ^ f := Nat.two_pow_pos f
    by_cases h0 : n = 0
    · subst h0; rw [show ((0 : Nat) : Int) = 0 from rfl, naf_zero] <;> rfl
    have key : n % 4 = 0 ∨ n % 4 = 1 ∨ n % 4 = 2 ∨ n % 4 = 3 := by omega
    unfold placesF
    rw [if_neg h0]
    rcases key with q | q | q | q
    · rw [if_neg (by omega), if_neg (by omega), placesF_eq f (n / 2) (p + 1) (by omega), naf_even (n := (n : Int)) (by omega), show ((n : Int)) / 2 = ((n / 2 : Nat) : Int) by omega]
    · rw [if_pos q, placesF_eq f ((n - 1) / 2) (p + 1) (by omega), naf_odd (n := (n : Int)) (by omega), show ((n : Int) - (2 - (n : Int) % 4)) / 2 = (((n - 1) / 2 : Nat) : Int) by omega, List.map_cons]
    · rw [if_neg (by omega), if_neg (by omega), placesF_eq f (n / 2) (p + 1) (by omega), naf_even (n := (n : Int)) (by omega), show ((n : Int)) / 2 = ((n / 2 : Nat) : Int) by omega]
    · rw [if_neg (by omega), if_pos q, placesF_eq f ((n + 1) / 2) (p + 1) (by omega), naf_odd (n := (n : Int)) (by omega), show ((n : Int) - (2 - (n : Int) % 4)) / 2 = (((n + 1) / 2 : Nat) : Int) by omega, List.map_cons]
theorem size_toT (n : Int) : (toT n).size = 1 + (((naf n 0).map (·.2)).map fun p : Nat => (toT (p : Int)).size).sum := by
  rw [size_toL, toL_toT, List.map_map, List.map_map]
  congr 1
  exact (List.reverse_perm _).map _ |>.sum_nat
def szF : Nat → Nat → Nat
  | 0, _ => 1
  | d + 1, n => 1 + ((placesF 15 n 0).map (szF d)).sum
theorem szF_eq : ∀ (d n : Nat), n < Cb (d + 1) → n ≤ 16384 → szF d n = (toT (n : Int)).size
  | 0, n, h, _ => by
    have : n = 0 := by
      have : n < 1 := h
      omega
    subst this
    rw [show ((0 : Nat) : Int) = 0 from rfl, toT_eq, naf_zero] <;> rfl
  | d + 1, n, h, h2 => by
    rw [size_toT, szF, placesF_eq 14 n 0 h2]
    congr 2
    refine List.map_congr_left fun p hp => ?_
    obtain ⟨x, hx, rfl⟩ := List.mem_map.mp hp
    refine szF_eq d x.2 (Cb_step (by simpa using h) hx) ?_
    have := naf_lt hx
    simp at this
    omega
theorem Cb_ge5 : 16385 ≤ Cb 6 := by
  have h3 : Cb 3 = 3 := by decide
  have h4 : Cb 4 = 5 := by show 2 ^ (Cb 3 - 1) + 1 = 5; rw [h3] <;> rfl
  have h5 : Cb 5 = 17 := by show 2 ^ (Cb 4 - 1) + 1 = 17; rw [h4] <;> rfl
  have h6 : Cb 6 = 65537 := by show 2 ^ (Cb 5 - 1) + 1 = 65537; rw [h5] <;> rfl
  omega
theorem sz_le (n : Nat) (h : n ≤ 16384) : szF 5 n = (toT (n : Int)).size := szF_eq 5 n (Nat.lt_of_lt_of_le (Nat.lt_succ_of_le h) Cb_ge5) h
def tb : List Nat := [1, 2, 3, 5, 4, 5, 8, 7, 6, 7, 8, 9, 8, 9]
theorem tb_eq : ∀ p : Nat, p < 14 → tb.getD p 0 = (toT (p : Int)).size := by
  have h : ∀ p : Nat, p < 14 → tb.getD p 0 = szF 5 p := by decide +kernel
  intro p hp
  rw [← sz_le p (by omega)]
  exact h p hp
theorem sz14 : ∀ p : Nat, p < 14 → (toT (p : Int)).size ≤ 9 := by
  intro p hp
  rw [← tb_eq p hp]
  exact (by decide : ∀ p : Nat, p < 14 → tb.getD p 0 ≤ 9) p hp
def costF : Nat → Nat → Nat → Nat
  | 0, _, _ => 0
  | f + 1, n, p => if n = 0 then 0 else if n % 4 = 1 then tb.getD p 0 + costF f ((n - 1) / 2) (p + 1) else if n % 4 = 3 then tb.getD p 0 + costF f ((n + 1) / 2) (p + 1) else costF f (n / 2) (p + 1)
theorem costF_eq : ∀ (f n p : Nat), costF f n p = ((placesF f n p).map fun q => tb.getD q 0).sum
  | 0, _, _ => rfl
  | f + 1, n, p => by
    unfold costF placesF
    split
    · rfl
    · split
      · rw [List.map_cons, List.sum_cons, costF_eq f]
      · split
        · rw [List.map_cons, List.sum_cons, costF_eq f]
        · exact costF_eq f _ _
theorem sz_cost (n : Nat) (h : n ≤ 4096) : (toT (n : Int)).size = 1 + costF 13 n 0 := by
  rw [size_toT, costF_eq, placesF_eq 12 n 0 h]
  congr 2
  refine List.map_congr_left fun p hp => ?_
  obtain ⟨x, hx, rfl⟩ := List.mem_map.mp hp
  have := naf_le (m := 12) (by simpa using h) hx
  exact (tb_eq x.2 (by omega)).symm
theorem sz2810 : ∀ p : Nat, p < 2810 → (toT (p : Int)).size ≤ 39 := by
  have h : ∀ p : Nat, p < 2810 → costF 13 p 0 ≤ 38 := by decide +kernel
  intro p hp
  rw [sz_cost p (by omega)]
  have := h p hp
  omega
theorem height_toT : ∀ (d : Nat) (n : Int), n.natAbs < Cb (d + 1) → (toT n).height ≤ d
  | 0, n, h => by
    have : n = 0 := by
      have : n.natAbs < 1 := h
      omega
    subst this
    rw [toT_eq, naf_zero]; exact Nat.le_refl _
  | d + 1, n, h => by
    refine height_le_of fun x hx => ?_
    rw [toL_toT] at hx
    obtain ⟨y, hy, rfl⟩ := List.mem_map.mp hx
    have := height_toT d (y.2 : Int) (by have := Cb_step h (List.mem_reverse.mp hy); simpa using this)
    exact Nat.succ_le_succ this
end Sk

set_option Elab.async false
set_option linter.all false
set_option maxRecDepth 100000
set_option maxHeartbeats 2000000
namespace Sk
theorem wt_neg : ∀ (k : Nat) (n : Int), n.natAbs ≤ k → wt (-n) = wt n
  | 0, n, h => by
    have : n = 0 := by omega
    subst this; rfl
  | k + 1, n, h => by
    by_cases h0 : n = 0
    · subst h0; rfl
    have key : n % 4 = 0 ∨ n % 4 = 1 ∨ n % 4 = 2 ∨ n % 4 = 3 := by omega
    rcases key with q | q | q | q
    · rw [wt_even (n := n) (by omega), wt_even (n := -n) (by omega), show -n / 2 = -(n / 2) by omega, wt_neg k _ (by omega)]
    · rw [wt_one (n := n) q, wt_three (n := -n) (by omega), show (-n + 1) / 4 = -((n - 1) / 4) by omega]
      by_cases hz : (n - 1) / 4 = 0
      · rw [hz]; rfl
      · rw [wt_neg k _ (by omega)]
    · rw [wt_even (n := n) (by omega), wt_even (n := -n) (by omega), show -n / 2 = -(n / 2) by omega, wt_neg k _ (by omega)]
    · rw [wt_three (n := n) q, wt_one (n := -n) (by omega), show (-n - 1) / 4 = -((n + 1) / 4) by omega]
      by_cases hz : (n + 1) / 4 = 0
      · rw [hz]; rfl
      · rw [wt_neg k _ (by omega)]
theorem wt_add_list : ∀ (l : List (Int × Nat)) (n : Int), (∀ x ∈ l, x.1 = 1 ∨ x.1 = -1) → wt (n + sumP l) ≤ wt n + l.length
  | [], n, _ => by show wt (n + 0) ≤ wt n; rw [Int.add_zero]; exact Nat.le_refl _
  | (s, p) :: r, n, h => by
    have h1 := wt_add_list r (n + s * 2 ^ p) fun x hx => h x (List.mem_cons_of_mem _ hx)
    have h2 := wt_pow p n s (h (s, p) List.mem_cons_self)
    show wt (n + (s * 2 ^ p + sumP r)) ≤ wt n + (r.length + 1)
    rw [← Int.add_assoc]
    omega
theorem wt_add (n c : Int) : wt (n + c) ≤ wt n + wt c := by
  have h := wt_add_list (naf c 0) n fun x hx => naf_sign hx
  rw [naf_sum _ c (Nat.le_refl _) 0] at h
  simpa [wt] using h
theorem wt_20 {c : Int} (h : c.natAbs ≤ 20) : wt c ≤ 3 := by
  have pos : ∀ k : Nat, k ≤ 20 → wt (k : Int) ≤ 3 := by
    have h : ∀ k : Nat, k < 21 → (placesF 6 k 0).length ≤ 3 := by decide +kernel
    intro k hk
    have := h k (by omega)
    rw [placesF_eq 5 k 0 (by omega), List.length_map] at this
    exact this
  rcases Int.le_total 0 c with h0 | h0
  · have := pos c.toNat (by omega)
    rwa [show ((c.toNat : Nat) : Int) = c by omega] at this
  · have := pos (-c).toNat (by omega)
    rw [show (((-c).toNat : Nat) : Int) = -c by omega, wt_neg _ _ (Nat.le_refl _)] at this
    exact this
theorem wt_mul_pow (h : Int) : ∀ k : Nat, wt (2 ^ k * h) = wt h
  | 0 => by rw [Int.pow_zero, Int.one_mul]
  | k + 1 => by rw [Int.pow_succ, Int.mul_comm (2 ^ k) 2, Int.mul_assoc, wt_dbl, wt_mul_pow h k]
/-- a sum of i signed powers of two, told apart at the place 14 -/
structure PlW (i : Nat) (n : Int) : Prop where
  wt : wt n ≤ i
  big : n.natAbs ≤ i * 2 ^ 2799
  part : ∃ (B r : Int) (j : Nat), n = 16384 * B + r ∧ j ≤ i ∧ Sk.wt B ≤ j ∧ r.natAbs ≤ (i - j) * 8192
theorem PlW.zero : PlW 0 0 := ⟨by rw [wt_zero]; exact Nat.le_refl _, Nat.zero_le _, 0, 0, 0, rfl, Nat.le_refl _, by rw [wt_zero]; exact Nat.le_refl _, Nat.zero_le _⟩
theorem PlW.next {i : Nat} {n s : Int} {p : Nat} (h : PlW i n) (hs : s = 1 ∨ s = -1) (hp : p < 2800) : PlW (i + 1) (n + s * 2 ^ p) := by
  have hp2 : 2 ^ p ≤ 2 ^ 2799 := Nat.pow_le_pow_right (by decide) (by omega)
  have hc : ((2 ^ p : Nat) : Int) = (2 : Int) ^ p := by norm_cast
  refine ⟨Nat.le_trans (wt_pow p n s hs) (Nat.succ_le_succ h.wt), ?_, ?_⟩
  · have h1 := h.big
    rw [Nat.succ_mul]
    generalize (2 : Nat) ^ 2799 = X at *
    generalize i * X = Y at *
    rw [← hc]
    generalize (2 : Nat) ^ p = Z at *
    rcases hs with rfl | rfl <;> omega
  · obtain ⟨B, r, j, h1, h2, h3, h4⟩ := h.part
    by_cases hq : 14 ≤ p
    · refine ⟨B + s * 2 ^ (p - 14), r, j + 1, ?_, by omega, Nat.le_trans (wt_pow _ B s hs) (by omega), by rw [Nat.add_sub_add_right]; exact h4⟩
      have e : (2 : Int) ^ p = 16384 * 2 ^ (p - 14) := by
        have : p = 14 + (p - 14) := by omega
        rw [this, Int.pow_add, Nat.add_sub_cancel_left] <;> rfl
      rw [e, h1, Int.mul_add, ← Int.mul_assoc s, Int.mul_comm s, Int.mul_assoc]
      omega
    · refine ⟨B, r + s * 2 ^ p, j, by rw [h1]; omega, by omega, h3, ?_⟩
      have e : 2 ^ p ≤ 2 ^ 13 := Nat.pow_le_pow_right (by decide) (by omega)
      have e2 : (2 : Nat) ^ 13 = 8192 := by decide
      rw [e2] at e
      rw [← hc]
      generalize (2 : Nat) ^ p = Z at *
      rcases hs with rfl | rfl <;> omega
theorem PlW.le {i : Nat} {n : Int} (h : PlW i n) (hi : i ≤ 5) : PlW 5 n := by
  obtain ⟨B, r, j, h1, h2, h3, h4⟩ := h.part
  exact ⟨Nat.le_trans h.wt hi, Nat.le_trans h.big (Nat.mul_le_mul_right _ hi), B, r, j, h1, by omega, h3, by omega⟩
theorem sum_all : ∀ (l : List Nat) (f : Nat → Nat) (m : Nat), (∀ p ∈ l, f p ≤ m) → (l.map f).sum ≤ m * l.length
  | [], _, _, _ => Nat.zero_le _
  | p :: l, f, m, h => by
    have h1 := sum_all l f m fun q hq => h q (List.mem_cons_of_mem _ hq)
    have h2 := h p List.mem_cons_self
    rw [List.map_cons, List.sum_cons, List.length_cons, Nat.mul_succ]
    omega
theorem sum_one : ∀ (l : List Nat) (f : Nat → Nat) (m a : Nat), (∀ p ∈ l, f p ≤ m) → (∃ p ∈ l, f p ≤ a) → (l.map f).sum + m ≤ m * l.length + a
  | [], _, _, _, _, ⟨p, hp, _⟩ => by cases hp
  | q :: l, f, m, a, h, ⟨p, hp, hq⟩ => by
    have h2 := h q List.mem_cons_self
    rw [List.map_cons, List.sum_cons, List.length_cons, Nat.mul_succ]
    rcases List.mem_cons.mp hp with rfl | hp
    · have h1 := sum_all l f m fun q hq => h q (List.mem_cons_of_mem _ hq)
      omega
    · have h1 := sum_one l f m a (fun q hq => h q (List.mem_cons_of_mem _ hq)) ⟨p, hp, hq⟩
      omega
theorem dvd_sumP : ∀ (l : List (Int × Nat)), (∀ x ∈ l, 14 ≤ x.2) → ∃ h : Int, sumP l = 16384 * h
  | [], _ => ⟨0, rfl⟩
  | (s, p) :: r, h => by
    obtain ⟨z, hz⟩ := dvd_sumP r fun x hx => h x (List.mem_cons_of_mem _ hx)
    have hp : 14 ≤ p := h (s, p) List.mem_cons_self
    refine ⟨s * 2 ^ (p - 14) + z, ?_⟩
    have e : (2 : Int) ^ p = 16384 * 2 ^ (p - 14) := by
      have : p = 14 + (p - 14) := by omega
      rw [this, Int.pow_add, Nat.add_sub_cancel_left] <;> rfl
    show s * 2 ^ p + sumP r = _
    rw [hz, e, Int.mul_add, ← Int.mul_assoc s, Int.mul_comm s, Int.mul_assoc]
theorem plain_big {n c : Int} (h : PlW 5 n) (hc : c.natAbs ≤ 20) : (n + c).natAbs ≤ 2 ^ 2802 := by
  have h1 := h.big
  have h2 : (2 : Nat) ^ 2802 = 2 ^ 2799 * 8 := by rw [show 2802 = 2799 + 3 by rfl, Nat.pow_add]
  have h3 : 20 ≤ (2 : Nat) ^ 2799 := Nat.le_trans (by decide : 20 ≤ 2 ^ 5) (Nat.pow_le_pow_right (by decide) (by decide))
  rw [h2]
  generalize (2 : Nat) ^ 2799 = X at *
  omega
theorem plain_fits {n c : Int} (h : PlW 5 n) (hc : c.natAbs ≤ 20) : (toT (n + c)).fits := by
  have hb := plain_big h hc
  have hw := Nat.le_trans (wt_add n c) (Nat.add_le_add h.wt (wt_20 hc))
  have hpl : ∀ p ∈ (naf (n + c) 0).map (·.2), (toT ((p : Nat) : Int)).size ≤ 39 := fun p hp => by
    obtain ⟨x, hx, rfl⟩ := List.mem_map.mp hp
    exact sz2810 _ (Nat.lt_of_le_of_lt (naf_le hb hx) (by decide))
  have hlen : ((naf (n + c) 0).map (·.2)).length = wt (n + c) := by rw [List.length_map] <;> rfl
  refine ⟨?_, Nat.le_trans (height_toT 6 _ (lt_Cb7 (k := 2803) (Nat.lt_of_le_of_lt hb (Nat.pow_lt_pow_right (by decide) (by decide))) (by decide))) (by decide)⟩
  rw [size_toT]
  by_cases hl : ∃ x ∈ naf (n + c) 0, x.2 < 14
  · obtain ⟨x, hx, hx14⟩ := hl
    have := sum_one ((naf (n + c) 0).map (·.2)) (fun p => (toT ((p : Nat) : Int)).size) 39 9 hpl ⟨x.2, List.mem_map.mpr ⟨x, hx, rfl⟩, sz14 _ hx14⟩
    rw [hlen] at this
    omega
  · have hall : ∀ x ∈ naf (n + c) 0, 14 ≤ x.2 := fun x hx => Nat.le_of_not_lt fun q => hl ⟨x, hx, q⟩
    obtain ⟨t, ht⟩ := dvd_sumP _ hall
    rw [naf_sum _ _ (Nat.le_refl _), Int.pow_zero, Int.mul_one] at ht
    obtain ⟨B, r, j, h1, h2, h3, h4⟩ := h.part
    have hw2 : wt (n + c) = wt t := by
      rw [ht]
      have := wt_mul_pow t 14
      rwa [show (2 : Int) ^ 14 = 16384 by decide] at this
    have hd : t = B ∨ t = B + 1 ∨ t = B + 1 + 1 ∨ t = B - 1 ∨ t = B - 1 - 1 := by omega
    have hw3 : wt t ≤ 7 := by
      have s1 := wt_succ B
      have s2 := wt_succ (B + 1)
      have p1 := wt_pred B
      have p2 := wt_pred (B - 1)
      rcases hd with rfl | rfl | rfl | rfl | rfl <;> omega
    have := sum_all ((naf (n + c) 0).map (·.2)) (fun p => (toT ((p : Nat) : Int)).size) 39 hpl
    rw [hlen] at this
    omega
end Sk

set_option Elab.async false
set_option linter.all false
set_option maxRecDepth 100000
set_option maxHeartbeats 2000000
namespace Sk
open PySem L2 Evl
/-! ### power_rows -/
inductive Rows : Nat → List (Nat × Nat × Nat) → Prop
  | one : Rows 1 []
  | cons {m n l : Nat} {rs : List (Nat × Nat × Nat)} : 1 < m → m ≤ 10000 → IsRow m n l → Rows (n - l) rs → Rows m ((m, n, l) :: rs)
def RowT (x : Nat × Nat × Nat) : VP := fun v H => ∃ q p, v = .ref q ∧ H q = some (.tup [.int (x.1 : Int), .ref p, .int (x.2.2 : Int)]) ∧ H p = some (.lst ((pows x.1 x.2.1).map V.int))
theorem rowT (x : Nat × Nat × Nat) : Mono (RowT x) := fun v H H' e ⟨q, p, h1, h2, h3⟩ => ⟨q, p, h1, e q _ h2, e p _ h3⟩
def pPowerRows : V → Hp → VP → Prop := fun x H R => ∃ m : Nat, x = .int (m : Int) ∧ 1 ≤ m ∧ m ≤ 10000 ∧ R = fun v H' => ∃ rs, Rows m rs ∧ ListR RowT rs v H'
def sp_power_rows (K : PySem.W.Frag) : Sp := spF1 pPowerRows
def t_power_rows (K : PySem.W.Frag) : TS := (tSeq (tAsg (tLst tNil) (gName 1))
    (tSeq (tWhile (tTest (tOp xGt (tVar 0) (tC (.int 1)))) (tSeq (tAsg (tCall (sp_power_row K) [] E0 (tCons (tVar 0) tNil)) (gTup K 2 (gCons (gName 2) (gCons (gName 3) gNil))))
    (tSeq (tDrop (tBM K "list" rAppend (tVar 1) (tCons (tTup (tCons (tVar 0) (tCons (tVar 2) (tCons (tVar 3) tNil)))) tNil)))
    (tAsg (tOp xSub (tCB (rLenS K) (tCons (tVar 2) tNil)) (tVar 3)) (gName 0)))))
    (tRet (tVar 1))))
def RowT' (l : Addr) (x : Nat × Nat × Nat) : VP := fun v H => ∃ q p, v = .ref q ∧ H q = some (.tup [.int (x.1 : Int), .ref p, .int (x.2.2 : Int)]) ∧ H p = some (.lst ((pows x.1 x.2.1).map V.int)) ∧ p ≠ l
def WRows (M : Nat) (l : Addr) (H0 : Hp) (w : Nat) (σ : L2.St) (H : Hp) : Prop := ∃ (m : Nat) (z2 z3 : Option V) (ys : List V) (acc : List (Nat × Nat × Nat)),
  σ = [some (.int (m : Int)), some (.ref l), z2, z3] ∧ w = m ∧ 1 ≤ m ∧ m ≤ 10000 ∧ H0 l = none ∧ Ex H0 H ∧ H l = some (.lst ys) ∧ ItemsR (RowT' l) acc ys H ∧ acc.length + m ≤ 10000 ∧ ∀ rs, Rows m rs → Rows M (acc ++ rs)
theorem pure_power_rows {K : PySem.W.Frag} {vs : List V} {H : Hp} {Q : VK} {E : XK} (h : sp_power_rows K vs H Q E) : t_power_rows K { nx := fun _ H' => Q .non H', rt := Q } (start ["m", "rows", "powers", "lead"] vs) H := by
  obtain ⟨x, R, rfl, ⟨M, rfl, hm1, hm2, rfl⟩, k⟩ := h
  refine q_asgL (el_lst ea_nil (by decide)) fun l H1 hl e1 h1 => ?_
  refine q_while' (WRows M l H) M ⟨M, none, none, [], [], rfl, rfl, hm1, hm2, hl, e1, h1, .nil, by simpa using hm2, fun rs h => h⟩ ?_
  rintro m σ' H' ⟨_, z2, z3, ys, acc, rfl, rfl, h1, h2, hl0, e2, h3, h4, h5, h6⟩
  refine ⟨_, et_test (ev_gt (ev_var rfl) ev_c), fun hb H2 e3 => ?_, fun hb H2 e3 => ?_⟩
  · have hm : 1 < m := by have := of_decide_eq_true hb; omega
    have h3' : H2 l = some (.lst ys) := e3 l _ h3
    refine q_unpack2 (er_call1 (R1 := fun v _ => v = .int (m : Int)) (R := PRow H2 m) (er_is (ev_var rfl)) monoC fun v H4 e4 hv => ⟨m, hv, h1, h2, fun v H' ⟨q, p, n, l, g1, g2, g3, g4, g5⟩ => ⟨q, p, n, l, g1, g2, g3, g4, fresh_back e4 g5⟩⟩) ?_
    rintro v H3 e4 ⟨q, p, n, lead, rfl, g2, g3, g4, g5⟩
    have hpl : p ≠ l := fun e => by rw [e, h3'] at g5; cases g5
    have hsh := g2.short hm
    have hlt := g2.1
    refine ⟨q, _, _, rfl, st_of g3, ?_⟩
    refine q_appU (ys := [.int (m : Int), .ref p, .int (lead : Int)]) (e4 l _ h3') (ev_var rfl) (eu_tup (ea_cons (ev_var rfl) (ea_cons (ev_var rfl) (ea_cons (ev_var rfl) ea_nil))) (by show 3 ≤ 100000; omega)) (by rw [h4.1]; omega) fun r H5 hr e5 h7 => ?_
    have e35 : Ex H' H5 := (e3.trans e4).trans e5
    have hup : ∀ a o, a ≠ l → H5 a = some o → upd H5 l (.lst (ys ++ [.ref r])) a = some o := fun a o ha h => by rw [upd_ne ha]; exact h
    have hrl : r ≠ l := fun e => by rw [e, e35 l _ h3] at h7; cases h7
    refine s_asg (ev_sub (ev_len (xs := (pows m n).map V.int) (ev_var rfl) (sq_of (hup p _ hpl (e5 p _ g4)))) (ev_var rfl)) fun H6 e6 => ?_
    refine ⟨n - lead, hsh, n - lead, some (.ref p), some (.int (lead : Int)), ys ++ [.ref r], acc ++ [(m, n, lead)], ?_, rfl, by omega, by omega, hl0, (Ex.mut (e2.trans e35) hl0).trans e6, e6 l _ upd_same, ?_, by rw [List.length_append]; show acc.length + 1 + (n - lead) ≤ 10000; omega, fun rs hrs => ?_⟩
    · have : (((pows m n).map V.int).length : Int) - (lead : Int) = ((n - lead : Nat) : Int) := by rw [List.length_map, pows_len]; omega
      rw [this] <;> rfl
    · refine ItemsR.snoc (⟨h4.1, fun i y a k1 k2 => ?_⟩) ⟨r, p, rfl, e6 r _ (hup r _ hrl h7), e6 p _ (hup p _ hpl (e5 p _ g4)), hpl⟩
      obtain ⟨q2, p2, j1, j2, j3, j4⟩ := h4.2 i y a k1 k2
      have hq2 : q2 ≠ l := fun e => by rw [e, h3] at j2; cases j2
      exact ⟨q2, p2, j1, e6 _ _ (hup q2 _ hq2 (e35 q2 _ j2)), e6 _ _ (hup p2 _ j4 (e35 p2 _ j3)), j4⟩
    · rw [List.append_assoc]
      exact h6 _ (Rows.cons hm h2 g2 hrs)
  · have hm : m = 1 := by have := of_decide_eq_false hb; omega
    subst hm
    refine s_ret (ev_var rfl) fun H4 e4 => k _ _ ((e2.trans e3).trans e4) ⟨acc, by have := h6 [] Rows.one; rwa [List.append_nil] at this, l, ys, rfl, (e3.trans e4) l _ h3, ?_⟩
    exact (ItemsR.imp h4 fun a y _ ⟨q, p, j1, j2, j3, _⟩ => (⟨q, p, j1, j2, j3⟩ : RowT a y H')).ex rowT (e3.trans e4)
/-! ### number_by_rows, power_by_rows -/
/-- a number in its form, short enough for the machine -/
structure T.ok (t : T) : Prop where
  can : t.can
  nn : t.nn
  len : t.toL.length < 100000
theorem can_toL : ∀ {t : T}, t.can → ∀ x ∈ t.toL, (x.1 = 1 ∨ x.1 = -1) ∧ 0 ≤ x.2.val ∧ x.2.can
  | .nil, _, x, hx => by cases hx
  | .cons s e r, h, x, hx => by
    rcases List.mem_cons.mp hx with rfl | hx
    · exact ⟨h.1.1, h.1.2.1, h.2.1⟩
    · exact can_toL h.2.2 x hx
theorem T.ok.mem {t : T} (h : t.ok) {x : Int × T} (hx : x ∈ t.toL) : (x.1 = 1 ∨ x.1 = -1) ∧ 0 ≤ x.2.val ∧ x.2.ok :=
  ⟨(can_toL h.can x hx).1, (can_toL h.can x hx).2.1, (can_toL h.can x hx).2.2, (nn_toL h.nn x hx).2, (nn_toL h.nn x hx).1.2.2.1⟩
theorem toT_ok {E : Nat} (hE : E ≤ 70000) {n : Int} (h : n.natAbs ≤ 2 ^ E) : (toT n).ok := ⟨toT_can n, toT_nn hE h, Nat.lt_of_le_of_lt (toT_len h) (by omega)⟩
/-- the modulus at a place of the rows -/
def modAt : List (Nat × Nat × Nat) → Nat
  | [] => 1
  | (m, _, _) :: _ => m
theorem Rows.mod {m : Nat} {rs : List (Nat × Nat × Nat)} (h : Rows m rs) : m = modAt rs := by cases h <;> rfl
def RowsOk (rs : List (Nat × Nat × Nat)) : Prop := Rows (modAt rs) rs
def pNum (K : PySem.W.Frag) (d : Nat) : V → V → V → Hp → VP → Prop := fun x y z H R => ∃ (t : T) (rs : List (Nat × Nat × Nat)) (i : Nat), NumV K H x t ∧ ListR RowT rs y H ∧ z = .int (i : Int) ∧ t.ok ∧ t.height < d ∧ d ≤ 45 ∧ i ≤ rs.length ∧ RowsOk (rs.drop i) ∧
  R = fun v _ => v = .int (t.val % (modAt (rs.drop i) : Int))
def pPow (K : PySem.W.Frag) (d : Nat) : V → V → V → Hp → VP → Prop := fun x y z H R => ∃ (e : T) (rs : List (Nat × Nat × Nat)) (i : Nat), NumV K H x e ∧ ListR RowT rs y H ∧ z = .int (i : Int) ∧ e.ok ∧ 0 ≤ e.val ∧ e.height < d ∧ d ≤ 44 ∧ i < rs.length ∧ RowsOk (rs.drop i) ∧
  R = fun v _ => v = .int ((2 ^ e.val.toNat % modAt (rs.drop i) : Nat) : Int)
def sp_number_by_rows (K : PySem.W.Frag) (d : Nat) : Sp := spF3 (pNum K d)
def sp_power_by_rows (K : PySem.W.Frag) (d : Nat) : Sp := spF3 (pPow K d)
def t_number_by_rows (K : PySem.W.Frag) (d : Nat) : TS := (tSeq (tIfS (tTest (tOp rEq (tVar 2) (tCB (rLenS K) (tCons (tVar 1) tNil)))) (tRet (tC (.int 0))) tNext)
    (tRet (tOp xMod (tCB (rSum K) (tCons (tLc (iTup K (tVar 0)) (gTup K 2 (gCons (gName 3) (gCons (gName 4) gNil))) tYes (tOp xMul (tVar 3) (tCall (sp_power_by_rows K d) [] E0 (tCons (tVar 4) (tCons (tVar 1) (tCons (tVar 2) tNil))))) [3, 4]) tNil)) (tOp (rIxT K) (tOp (rIxL K) (tVar 1) (tVar 2)) (tC (.int 0))))))
theorem sum_mod (m : Nat) : ∀ l : List (Int × T), (∀ x ∈ l, 0 ≤ x.2.val) → (l.map fun x => x.1 * ((2 ^ x.2.val.toNat % m : Nat) : Int)).sum % (m : Int) = (ofL l).val % (m : Int)
  | [], _ => rfl
  | (s, e) :: r, h => by
    have ih := sum_mod m r fun x hx => h x (List.mem_cons_of_mem _ hx)
    rw [List.map_cons, List.sum_cons, ofL, T.val, Int.add_emod, ih, Int.add_emod (s * 2 ^ e.val.toNat)]
    congr 2
    show s * ((2 ^ e.val.toNat % m : Nat) : Int) % (m : Int) = _
    rw [Int.natCast_emod, Int.mul_emod, Int.emod_emod, ← Int.mul_emod]
    norm_cast
theorem drop_at {α : Type} {l : List α} {i : Nat} {a : α} (h : l[i]? = some a) : l.drop i = a :: l.drop (i + 1) := by
  have hlt : i < l.length := (List.getElem?_eq_some_iff.mp h).1
  rw [List.drop_eq_getElem_cons hlt]
  congr 1
  exact (List.getElem?_eq_some_iff.mp h).2
theorem listRT {rs : List (Nat × Nat × Nat)} : Mono (ListR RowT rs) := fun v H H' e ⟨p, ys, h1, h2, h3⟩ => ⟨p, ys, h1, e p _ h2, h3.ex rowT e⟩
theorem atI_of {xs : List V} {i : Nat} {v : V} (h : xs[i]? = some v) : atI xs (i : Int) = some v := atI_nat h
theorem pure_number_by_rows {K : PySem.W.Frag} {d : Nat} {vs : List V} {H : Hp} {Q : VK} {E : XK} (h : sp_number_by_rows K (d + 1) vs H Q E) : t_number_by_rows K d { nx := fun _ H' => Q .non H', rt := Q } (start ["x", "rows", "at", "sign", "exponent"] vs) H := by
  obtain ⟨x, y, z, R, rfl, ⟨t, rs, i, hx, hr, rfl, hok, hh, hd, hi, hrs, rfl⟩, k⟩ := h
  obtain ⟨p, ys, rfl, hp, hys⟩ := _root_.id hr
  refine q_when (et_test (ev_eq (ev_var rfl) (ev_len (ev_var rfl) (sq_of hp)) rfl)) (fun hc H1 e1 => ?_) (fun hc H1 e1 => ?_)
  · have hc' : (i : Int) = (ys.length : Int) := V.int.inj (of_decide_eq_true hc)
    have : rs.drop i = [] := List.drop_eq_nil_of_le (by have := hys.1; omega)
    refine s_ret ev_c fun H2 e2 => k _ _ (e1.trans e2) ?_
    show V.int 0 = _
    rw [this]
    exact congrArg V.int (Int.emod_one _).symm
  · have hne : ¬ (i : Int) = (ys.length : Int) := fun e => (of_decide_eq_false hc) (by rw [e])
    have hlt : i < rs.length := by have := hys.1; omega
    obtain ⟨⟨m, n, l⟩, hrow⟩ : ∃ r, rs[i]? = some r := ⟨_, List.getElem?_eq_getElem hlt⟩
    obtain ⟨w, hw, q, pp, rfl, hq, hpp⟩ := hys.at hrow
    have hdrop := drop_at hrow
    rw [hdrop] at hrs
    have hm : 1 < m ∧ m ≤ 10000 := by cases hrs with | cons h1 h2 _ _ => exact ⟨h1, h2⟩
    obtain ⟨a, xs, rfl, hs, ht⟩ := hx.out
    have hit := items_terms ht
    refine s_ret (ev_mod (ev_sum (l := t.toL.map fun x => x.1 * ((2 ^ x.2.val.toNat % m : Nat) : Int)) ?_) (ev_atT (ev_at (ev_var rfl) (ev_var rfl) (sq_of (e1 p _ hp)) (atI_of hw)) ev_c (st_of (e1 q _ hq)) (at_of (j := 0) rfl rfl)) (by show (0 : Int) < (m : Int); omega)) fun H2 e2 => k _ _ (e1.trans e2) ?_
    · refine (er_lcIT (R1 := TermI K) (R2 := fun x => IntI (x.1 * ((2 ^ x.2.val.toNat % m : Nat) : Int))) (l := t.toL) (er_var rfl fun H2 e2 => ⟨a, xs, rfl, ex_t (e1.trans e2) hs, hit.ex (fun b => (termI b).mono) (e1.trans e2)⟩) (fun b => (termI b).mono) (fun a => intI _) hok.len ?_).imp fun v H1 e ⟨p, ys, h1, h2, h3, h4⟩ => ⟨p, ys, h1, sq_of h3, ⟨by rw [List.length_map]; exact h4.1, fun i y a g1 g2 => ?_⟩⟩
      · rintro j ⟨s, e⟩ x H2 hj ⟨q, w, rfl, hq2, hw2⟩ e2 Qk kk
        have hmem : (s, e) ∈ t.toL := List.mem_of_getElem? hj
        obtain ⟨hsg, hev, heok⟩ := hok.mem hmem
        have hhe := T.height_mem hmem
        have hhe' : e.height < t.height := hhe
        refine g_pair hq2 ⟨rfl, ?_⟩
        refine ev_mul (i := s) (j := ((2 ^ e.val.toNat % m : Nat) : Int)) (ev_var rfl) (ev_er (er_call3 (R1 := fun v H => NumV K H v e) (R2 := ListR RowT rs) (R3 := fun v _ => v = .int (i : Int)) (er_var rfl fun H1 e1 => hw2.ex e1) numT.mono (er_var rfl fun H3 e3 => listRT _ _ _ (e1.trans (e2.trans e3)) hr) listRT (er_is (ev_var rfl)) monoC fun v v' v'' H3 e3 g1 g2 g3 => ⟨e, rs, i, g1, g2, g3, heok, hev, by omega, by omega, hlt, by rw [hdrop]; exact hrs, by rw [hdrop] <;> rfl⟩)) (.inl (by rcases hsg with h | h <;> (have h' : s = _ := h; subst h'; decide))) H2 (Ex.refl _) _ fun H3 e3 => kk _ _ e3 rfl
      · rw [List.getElem?_map] at g2
        cases hq : t.toL[i]? with
        | none => rw [hq] at g2; cases g2
        | some z => rw [hq] at g2; cases g2; exact h4.2 i y z g1 hq
    · show V.int _ = V.int _
      rw [hdrop, sum_mod m t.toL fun x hx => (hok.mem hx).2.1, ofL_toL] <;> rfl
theorem q_unpack3 {K : PySem.W.Frag} {σ : L2.St} {H : Hp} {te : TE} {R : VP} {D : Ends} {tz : TS} {i j l : Nat} (h : ER te σ H R) (hR : ∀ v H1, Ex H H1 → R v H1 → ∃ a x y z, v = .ref a ∧ SqT K H1 a [x, y, z] ∧ tz D (((σ.set i (some x)).set j (some y)).set l (some z)) H1) :
    tSeq (tAsg te (gTup K 3 (gCons (gName i) (gCons (gName j) (gCons (gName l) gNil))))) tz D σ H := h H (Ex.refl H) _ fun v H1 e r => by
  obtain ⟨a, x, y, z, rfl, hs, q⟩ := hR v H1 e r
  exact g_trip (Q := fun σ' H' => tz D σ' H') hs q
def t_power_by_rows (K : PySem.W.Frag) (d : Nat) : TS := (tSeq (tAsg (tOp (rIxL K) (tVar 1) (tVar 2)) (gTup K 3 (gCons (gName 5) (gCons (gName 6) (gCons (gName 7) gNil)))))
    (tSeq (tAsg (tCall (sp_value_within K 45) [] E0 (tCons (tVar 0) (tCons (tBits (tVar 7)) tNil))) (gName 3))
    (tSeq (tIfS (tAnd (tTest (tOp xNotN (tVar 3) (tC .non))) (tTest (tOp xLt (tVar 3) (tVar 7)))) (tRet (tOp (rIxL K) (tVar 6) (tVar 3))) tNext)
    (tSeq (tAsg (tOp xSub (tCall (sp_number_by_rows K d) [] E0 (tCons (tVar 0) (tCons (tVar 1) (tCons (tOp xAdd (tVar 2) (tC (.int 1))) tNil)))) (tVar 7)) (gName 4))
    (tRet (tOp (rIxL K) (tVar 6) (tOp xAdd (tVar 7) (tOp xMod (tVar 4) (tOp xSub (tCB (rLenS K) (tCons (tVar 6) tNil)) (tVar 7))))))))))
theorem pows_at {m n i : Nat} (h : i < n) : ((pows m n).map V.int)[i]? = some (.int ((2 ^ i % m : Nat) : Int)) := by
  unfold pows
  rw [List.map_map, List.getElem?_map, List.getElem?_range h] <;> rfl
theorem pure_power_by_rows {K : PySem.W.Frag} {d : Nat} {vs : List V} {H : Hp} {Q : VK} {E : XK} (h : sp_power_by_rows K d vs H Q E) : t_power_by_rows K d { nx := fun _ H' => Q .non H', rt := Q } (start ["exponent", "rows", "at", "place", "turns", "_", "powers", "lead"] vs) H := by
  obtain ⟨x, y, z, R, rfl, ⟨e, rs, i, hx, hr, rfl, hok, hev, hh, hd, hi, hrs, rfl⟩, k⟩ := h
  obtain ⟨p, ys, rfl, hp, hys⟩ := _root_.id hr
  obtain ⟨⟨m, n, l⟩, hrow⟩ : ∃ r, rs[i]? = some r := ⟨_, List.getElem?_eq_getElem hi⟩
  obtain ⟨w, hw, q, pp, rfl, hq, hpp⟩ := hys.at hrow
  have hdrop := drop_at hrow
  rw [hdrop] at hrs
  have hrs' : 1 < m ∧ m ≤ 10000 ∧ IsRow m n l ∧ Rows (n - l) (rs.drop (i + 1)) := by cases hrs with | cons h1 h2 h3 h4 => exact ⟨h1, h2, h3, h4⟩
  obtain ⟨hm1, hm2, hir, hnext⟩ := hrs'
  have hle := hir.le (by omega)
  have hln := hir.1
  have hval : modAt (rs.drop i) = m := by rw [hdrop] <;> rfl
  rw [hval] at k
  refine q_unpack3 (er_is (ev_at (ev_var rfl) (ev_var rfl) (sq_of hp) (atI_of hw))) ?_
  rintro v H1 e1 rfl
  refine ⟨q, _, _, _, rfl, st_of (e1 q _ hq), ?_⟩
  refine q_asgR (R := fun v _ => v = optV (e.within (bl l))) (er_call2 (R1 := fun v H => NumV K H v e) (R2 := fun v _ => v = .int (bl l : Nat)) (er_var rfl fun H2 e2 => hx.ex (e1.trans e2)) numT.mono (er_is (by rw [← intBits_bl]; exact ev_bits (ev_var rfl))) monoC ?_) fun v H2 e2 hv => ?_
  · rintro v w' H2 e2 h1 rfl
    exact ⟨e, bl l, h1, rfl, hok.nn, by omega, by have := bl_le l; omega, hok.len, rfl⟩
  subst hv
  have hmain : l ≤ e.val.toNat → ∀ H3, Ex H2 H3 → ∀ z4 : Option V, tSeq (tAsg (tOp xSub (tCall (sp_number_by_rows K d) [] E0 (tCons (tVar 0) (tCons (tVar 1) (tCons (tOp xAdd (tVar 2) (tC (.int 1))) tNil)))) (tVar 7)) (gName 4))
      (tRet (tOp (rIxL K) (tVar 6) (tOp xAdd (tVar 7) (tOp xMod (tVar 4) (tOp xSub (tCB (rLenS K) (tCons (tVar 6) tNil)) (tVar 7)))))) { nx := fun _ H' => Q .non H', rt := Q }
      [some x, some (.ref p), some (.int (i : Int)), some (optV (e.within (bl l))), z4, some (.int (m : Int)), some (.ref pp), some (.int (l : Int))] H3 := by
    intro hl H3 e3 z4
    refine q_asg (ev_sub (i := e.val % ((n - l : Nat) : Int)) (ev_er (er_call3 (R1 := fun v H => NumV K H v e) (R2 := ListR RowT rs) (R3 := fun v _ => v = .int ((i + 1 : Nat) : Int)) (er_var rfl fun H4 e4 => hx.ex ((e1.trans e2).trans (e3.trans e4))) numT.mono (er_var rfl fun H4 e4 => listRT _ _ _ ((e1.trans e2).trans (e3.trans e4)) hr) listRT (er_is (ev_is (ev_add (ev_var rfl) ev_c) (congrArg V.int (by omega)))) monoC
      fun v v' v'' H4 e4 g1 g2 g3 => ⟨e, rs, i + 1, g1, g2, g3, hok, hh, by omega, by omega, by unfold RowsOk; rw [← hnext.mod]; exact hnext, by rw [← hnext.mod]⟩)) (ev_var rfl)) fun H4 e4 => ?_
    have hnl : 0 < n - l := by omega
    have hidx : (l : Int) + (e.val % ((n - l : Nat) : Int) - (l : Int)) % (((((pows m n).map V.int).length : Nat) : Int) - (l : Int)) = ((l + (e.val.toNat - l) % (n - l) : Nat) : Int) := by
      rw [List.length_map, pows_len, show (n : Int) - (l : Int) = ((n - l : Nat) : Int) by omega, Int.emod_sub_emod]
      have h1 : e.val - (l : Int) = ((e.val.toNat - l : Nat) : Int) := by omega
      rw [h1]
      norm_cast
    have hpp' : ∀ H5, Ex H4 H5 → H5 pp = some (.lst ((pows m n).map V.int)) := fun H5 e5 => (e1.trans (e2.trans (e3.trans (e4.trans e5)))) pp _ hpp
    refine s_ret (v := .int ((2 ^ e.val.toNat % m : Nat) : Int)) (ev_at (ev_var rfl) (ev_add (ev_var rfl) (ev_mod (ev_var rfl) (ev_sub (ev_len (xs := (pows m n).map V.int) (ev_var rfl) (sq_of (hpp' H4 (Ex.refl _)))) (ev_var rfl)) (by rw [List.length_map, pows_len]; omega))) (sq_of (hpp' H4 (Ex.refl _))) ?_) fun H5 e5 => k _ _ ((e1.trans e2).trans (e3.trans (e4.trans e5))) rfl
    rw [hidx, hir.turn hl]
    exact atI_of (pows_at (by have := Nat.mod_lt (e.val.toNat - l) hnl; omega))
  cases hq2 : e.within (bl l) with
  | none =>
    have hbig := can_none hok.can hq2
    have hl : l ≤ e.val.toNat := by
      have := lt_bl l
      omega
    refine q_when (b := false) (et_and (a := false) (b := true) (et_test (ev_is (ev_notN (ev_var rfl)) rfl)) (fun h => by cases h)) (fun h => by cases h) fun _ H3 e3 => ?_
    have := hmain hl H3 e3 none
    rw [hq2] at this
    exact this
  | some qv =>
    have hqv := within_val _ _ _ hq2
    refine q_when (b := decide (qv < (l : Int))) (et_is (et_and (a := true) (b := decide (qv < (l : Int))) (et_test (ev_is (ev_notN (ev_var rfl)) rfl)) fun _ => et_test (ev_lt (ev_var rfl) (ev_var rfl))) (Bool.true_and _)) (fun hc H3 e3 => ?_) (fun hc H3 e3 => ?_)
    · have hc' := of_decide_eq_true hc
      refine s_ret (v := .int ((2 ^ e.val.toNat % m : Nat) : Int)) (ev_at (k := qv) (ev_var rfl) (ev_var rfl) (sq_of ((e1.trans (e2.trans e3)) pp _ hpp)) ?_) fun H4 e4 => k _ _ ((e1.trans e2).trans (e3.trans e4)) rfl
      have hc2 : qv < (l : Int) := hc'
      have hq3 : qv = ((e.val.toNat : Nat) : Int) := by omega
      have hlt : e.val.toNat < n := by omega
      rw [hq3]
      exact atI_of (pows_at hlt)
    · have hc' := of_decide_eq_false hc
      have := hmain (by omega) H3 e3 none
      rw [hq2] at this
      exact this
end Sk

set_option Elab.async false
set_option linter.all false
set_option maxRecDepth 100000
set_option maxHeartbeats 2000000
namespace Sk
open PySem L2 Evl
/-! ### remainder, power_remainder, powers_of_two -/
def pRem (K : PySem.W.Frag) (CN : Addr) : V → V → Hp → VP → WP → Prop := fun x y H R W => ∃ (t : T) (m : Int), NumV K H x t ∧ y = .int m ∧ t.ok ∧ t.height < 44 ∧ (1 ≤ m ∧ m ≤ 10000 → ∀ H', R (.int (t.val % m)) H') ∧ (¬ (1 ≤ m ∧ m ≤ 10000) → W CN)
def sp_remainder (K : PySem.W.Frag) (CN : Addr) : Sp := spX2 K (pRem K CN)
def t_remainder (K : PySem.W.Frag) (a_NotAllowed : Addr) (E : XK) : TS := (tSeq (tDrop (tCall (sp_check_modulus K a_NotAllowed) [] E (tCons (tVar 1) tNil)))
    (tRet (tCall (sp_number_by_rows K 45) [] E0 (tCons (tVar 0) (tCons (tCall (sp_power_rows K) [] E0 (tCons (tVar 1) tNil)) (tCons (tC (.int 0)) tNil))))))
/-- the modulus is looked at: it is fine, or the error is due -/
theorem x_check {K : PySem.W.Frag} {CN : Addr} {σ : L2.St} {H : Hp} {te : TE} {E : XK} {m : Int} {Q : VK} (h : Ev te σ H (.int m)) (k1 : 1 ≤ m ∧ m ≤ 10000 → ∀ H1, Ex H H1 → Q .non H1) (k2 : ¬ (1 ≤ m ∧ m ≤ 10000) → ∀ H1, Ex H H1 → ∀ d, ErrAt K CN d H1 → E (.ref CN) (some d) H1) : tCall (sp_check_modulus K CN) [] E (tCons te tNil) σ H Q :=
  x_call1 (R1 := fun v _ => v = .int m) (er_is h) monoC Q fun v H1 e1 hv =>
    ⟨fun v _ => v = .non ∧ (1 ≤ m ∧ m ≤ 10000), fun C => C = CN ∧ ¬ (1 ≤ m ∧ m ≤ 10000), ⟨m, hv, fun hm _ => ⟨rfl, hm⟩, fun hm => ⟨rfl, hm⟩⟩, fun w H2 e2 ⟨hw, hm⟩ => by rw [hw]; exact k1 hm H2 (e1.trans e2), fun C H2 e2 ⟨hC, hm⟩ => by rw [hC]; exact k2 hm H2 (e1.trans e2)⟩
theorem pure_remainder {K : PySem.W.Frag} {CN : Addr} {vs : List V} {H : Hp} {Q : VK} {E : XK} (h : sp_remainder K CN vs H Q E) : t_remainder K CN E { nx := fun _ H' => Q .non H', rt := Q } (start ["x", "m"] vs) H := by
  obtain ⟨x, y, R, W, rfl, ⟨t, m, hx, rfl, hok, hh, h1, h2⟩, k, kE⟩ := h
  refine x_check (m := m) (ev_var rfl) (fun hm H1 e1 => ?_) (fun hm H1 e1 => kE CN H1 e1 (h2 hm))
  obtain ⟨mn, rfl⟩ : ∃ mn : Nat, m = (mn : Int) := ⟨m.toNat, by omega⟩
  refine s_retR (R := fun v _ => v = .int (t.val % (mn : Int))) (er_call3 (R1 := fun v H => NumV K H v t) (R2 := fun v H' => ∃ rs, Rows mn rs ∧ ListR RowT rs v H') (R3 := fun v _ => v = .int ((0 : Nat) : Int)) (er_var rfl fun H2 e2 => hx.ex (e1.trans e2)) numT.mono
    (er_call1 (R1 := fun v _ => v = .int (mn : Int)) (er_is (ev_var rfl)) monoC fun v H2 e2 hv => ⟨mn, hv, by omega, by omega, rfl⟩) (fun v Ha Hb e ⟨rs, g1, g2⟩ => ⟨rs, g1, listRT _ _ _ e g2⟩) (er_is ev_c) monoC
    fun v v' v'' H2 e2 g1 ⟨rs, g2, g3⟩ g4 => ⟨t, rs, 0, g1, g3, g4, hok, by omega, Nat.le_refl _, Nat.zero_le _, by show RowsOk rs; unfold RowsOk; rw [← g2.mod]; exact g2, by rw [List.drop_zero, ← g2.mod]⟩) fun v H2 e2 hv => ?_
  subst hv
  exact k _ _ (e1.trans e2) (h1 hm _)
def pPowRem (K : PySem.W.Frag) (CN : Addr) : V → V → Hp → VP → WP → Prop := fun x y H R W => ∃ (e : T) (m : Int), NumV K H x e ∧ y = .int m ∧ e.ok ∧ e.height < 43 ∧ ((1 ≤ m ∧ m ≤ 10000) ∧ 0 ≤ e.val → ∀ H', R (.int (2 ^ e.val.toNat % m)) H') ∧ (¬ ((1 ≤ m ∧ m ≤ 10000) ∧ 0 ≤ e.val) → W CN)
def sp_power_remainder (K : PySem.W.Frag) (CN : Addr) : Sp := spX2 K (pPowRem K CN)
def t_power_remainder (K : PySem.W.Frag) (a_NotAllowed : Addr) (E : XK) : TS := (tSeq (tDrop (tCall (sp_check_modulus K a_NotAllowed) [] E (tCons (tVar 1) tNil)))
    (tSeq (tIfS (tTest (tOp xLt (tCall (sp_sign_of K) [] E0 (tCons (tVar 0) tNil)) (tC (.int 0)))) (tRaise K E a_NotAllowed) tNext)
    (tRet (tCall (sp_remainder K a_NotAllowed) [] E (tCons (tTup (tCons (tTup (tCons (tC (.int 1)) (tCons (tVar 0) tNil))) tNil)) (tCons (tVar 1) tNil))))))
theorem ev_sign {K : PySem.W.Frag} {σ : L2.St} {H : Hp} {te : TE} {t : T} (h : ER te σ H (fun v H' => NumV K H' v t)) : Ev (tCall (sp_sign_of K) [] E0 (tCons te tNil)) σ H (.int t.sgn) :=
  ev_er (er_call1 (R1 := fun v H => NumV K H v t) h numT.mono fun v H1 e1 hv => ⟨t, hv, rfl⟩)
theorem pow_ok {e : T} (h : e.ok) (h0 : 0 ≤ e.val) : (T.cons 1 e .nil).ok :=
  ⟨⟨⟨.inl rfl, h0, h0⟩, h.can, True.intro⟩, ⟨⟨.inl rfl, h0, h.len, h.can⟩, h.nn, True.intro⟩, by show 1 < 100000; omega⟩
theorem pow_val (e : T) : (T.cons 1 e .nil).val = 2 ^ e.val.toNat := by show 1 * 2 ^ e.val.toNat + 0 = _; omega
theorem pure_power_remainder {K : PySem.W.Frag} {CN : Addr} {vs : List V} {H : Hp} {Q : VK} {E : XK} (h : sp_power_remainder K CN vs H Q E) : t_power_remainder K CN E { nx := fun _ H' => Q .non H', rt := Q } (start ["exponent", "m"] vs) H := by
  obtain ⟨x, y, R, W, rfl, ⟨e, m, hx, rfl, hok, hh, h1, h2⟩, k, kE⟩ := h
  refine x_check (m := m) (ev_var rfl) (fun hm H1 e1 => ?_) (fun hm H1 e1 => kE CN H1 e1 (h2 fun q => hm q.1))
  have hsg := can_sgn hok.can
  refine q_when (et_test (ev_lt (ev_sign (er_var rfl fun H2 e2 => hx.ex (e1.trans e2))) ev_c)) (fun hc H2 e2 => ?_) (fun hc H2 e2 => ?_)
  · have := of_decide_eq_true hc
    exact fun Hz ez => kE CN Hz ((e1.trans e2).trans ez) (h2 fun q => by have := q.2; omega)
  · have hs : ¬ e.sgn < 0 := of_decide_eq_false hc
    have h0 : 0 ≤ e.val := by omega
    have hnum : ER (tTup (tCons (tTup (tCons (tC (.int 1)) (tCons (tVar 0) tNil))) tNil)) [some x, some (.int m)] H2 (fun v H' => NumV K H' v (T.cons 1 e .nil)) :=
      (er_tup (ea_one (er_tup (ea_two (R := fun v _ => v = .int 1) (R' := fun v H => NumV K H v e) (er_is ev_c) monoC (er_var rfl fun H3 e3 => hx.ex ((e1.trans e2).trans e3)) numT.mono) (fun vs H3 H4 e ⟨v, w, g1, g2, g3⟩ => ⟨v, w, g1, g2, g3.ex e⟩) (fun vs H3 ⟨v, w, g1, _⟩ => by rw [g1]; show 2 ≤ 100000; omega))
        (fun v Ha Hb e ⟨p, vs, g1, g2, v', w, g3, g4, g5⟩ => ⟨p, vs, g1, e p _ g2, v', w, g3, g4, g5.ex e⟩)) (fun vs Ha Hb e ⟨v, hv, p, vs', g1, g2, v', w, g3, g4, g5⟩ => ⟨v, hv, p, vs', g1, e p _ g2, v', w, g3, g4, g5.ex e⟩) (fun vs H3 ⟨v, hv, _⟩ => by rw [hv]; show 1 ≤ 100000; omega)).imp
        fun v H3 e3 ⟨p, vs, g0, g1, v', hv', q, vs', g2, g3, u, w, g4, g5, g6⟩ => by
          subst g0 hv' g2 g4 g5
          exact NumV.mk (st_of g1) (TermsV.cons (st_of g3) g6 TermsV.nil)
    refine x_call2 (R1 := fun v H => NumV K H v (T.cons 1 e .nil)) (R2 := fun v _ => v = .int m) hnum numT.mono (er_is (ev_var rfl)) monoC _ fun v v' H3 e3 g1 g2 =>
      ⟨R, W, ⟨_, m, g1, g2, pow_ok hok h0, by show max (e.height + 1) 0 < 44; omega, fun hm' H' => by rw [pow_val]; exact h1 ⟨hm', h0⟩ H', fun hm' => absurd hm hm'⟩, fun w H4 e4 hw => k _ _ ((e1.trans e2).trans (e3.trans e4)) hw, fun C H4 e4 hw => kE C H4 ((e1.trans e2).trans (e3.trans e4)) hw⟩
def pPowsTwo (CN : Addr) : V → Hp → VP → WP → Prop := fun x H R W => ∃ m : Int, x = .int m ∧ (1 ≤ m ∧ m ≤ 10000 → ∀ (n l : Nat) (q : Addr) H', IsRow m.toNat n l → H' q = some (.tup [.int (l : Int), .int ((n - l : Nat) : Int)]) → R (.ref q) H') ∧ (¬ (1 ≤ m ∧ m ≤ 10000) → W CN)
def sp_powers_of_two (K : PySem.W.Frag) (CN : Addr) : Sp := spX1 K (pPowsTwo CN)
def t_powers_of_two (K : PySem.W.Frag) (a_NotAllowed : Addr) (E : XK) : TS := (tSeq (tDrop (tCall (sp_check_modulus K a_NotAllowed) [] E (tCons (tVar 0) tNil)))
    (tSeq (tAsg (tCall (sp_power_row K) [] E0 (tCons (tVar 0) tNil)) (gTup K 2 (gCons (gName 1) (gCons (gName 2) gNil))))
    (tRet (tTup (tCons (tVar 2) (tCons (tOp xSub (tCB (rLenS K) (tCons (tVar 1) tNil)) (tVar 2)) tNil))))))
theorem pure_powers_of_two {K : PySem.W.Frag} {CN : Addr} {vs : List V} {H : Hp} {Q : VK} {E : XK} (h : sp_powers_of_two K CN vs H Q E) : t_powers_of_two K CN E { nx := fun _ H' => Q .non H', rt := Q } (start ["m", "powers", "lead"] vs) H := by
  obtain ⟨x, R, W, rfl, ⟨m, rfl, h1, h2⟩, k, kE⟩ := h
  refine x_check (m := m) (ev_var rfl) (fun hm H1 e1 => ?_) (fun hm H1 e1 => kE CN H1 e1 (h2 hm))
  obtain ⟨mn, rfl⟩ : ∃ mn : Nat, m = (mn : Int) := ⟨m.toNat, by omega⟩
  refine q_unpack2 (er_call1 (R1 := fun v _ => v = .int (mn : Int)) (R := PRow H1 mn) (er_is (ev_var rfl)) monoC fun v H4 e4 hv => ⟨mn, hv, by omega, by omega, fun v H' ⟨q, p, n, l, g1, g2, g3, g4, g5⟩ => ⟨q, p, n, l, g1, g2, g3, g4, fresh_back e4 g5⟩⟩) ?_
  rintro v H2 e2 ⟨q, p, n, l, rfl, g2, g3, g4, g5⟩
  have hln := g2.1
  refine ⟨q, _, _, rfl, st_of g3, ?_⟩
  refine s_retU (eu_tup (vs := [.int (l : Int), .int ((n - l : Nat) : Int)]) (ea_cons (ev_var rfl) (ea_cons (ev_is (ev_sub (ev_len (xs := (pows mn n).map V.int) (ev_var rfl) (sq_of g4)) (ev_var rfl)) ?_) ea_nil)) (by show 2 ≤ 100000; omega)) fun r H3 _ e3 h3 => k _ _ ((e1.trans e2).trans e3) (h1 hm n l r _ g2 h3)
  rw [List.length_map, pows_len]
  exact congrArg V.int (by omega)
end Sk

set_option Elab.async false
set_option linter.all false
set_option maxRecDepth 100000
set_option maxHeartbeats 2000000
namespace Sk
open PySem L2 Evl
section
variable {K : PySem.W.Frag} {σ : L2.St} {H : Hp} {ta tb : TE} {tx : TA}
/-- [a, b, ..][k] -/
theorem ev_pickL {xs : List V} {k : Nat} {v : V} (h : EvA tx σ H xs) (hz : xs.length ≤ 1000) (hk : Ev tb σ H (.int (k : Int))) (hv : xs[k]? = some v) : Ev (tOp (rIxL K) (tLst tx) tb) σ H v :=
  ev_opL1 (el_lst h (by omega)) (fun H1 e => hk.mono e) fun p H1 hp e => rv_ixL (sq_of hp) (atI_nat hv)
theorem ints_at {l : List Int} {i : Nat} (h : i < l.length) : atI (l.map V.int) (i : Int) = some (.int (l.getD i 0)) := by
  refine atI_nat ?_
  rw [List.getElem?_map, List.getElem?_eq_getElem h, List.getD_eq_getElem?_getD, List.getElem?_eq_getElem h] <;> rfl
theorem getD_mem {l : List Int} {i : Nat} (h : i < l.length) : l.getD i 0 ∈ l := by
  rw [List.getD_eq_getElem?_getD, List.getElem?_eq_getElem h]
  exact List.getElem_mem h
theorem ev_ints {a : Addr} {l : List Int} {i : Nat} {k : Int} (ho : Ev ta σ H (.ref a)) (hi : Ev tb σ H (.int k)) (hk : k = (i : Int)) (hs : SqL K H a (l.map V.int)) (h : i < l.length) : Ev (tOp (rIxL K) ta tb) σ H (.int (l.getD i 0)) :=
  ev_at ho hi hs (by rw [hk]; exact ints_at h)
end
/-- a list of ints -/
def IntsL (l : List Int) : VP := fun v H => ∃ p, v = .ref p ∧ H p = some (.lst (l.map V.int))
theorem intsL (l : List Int) : Mono (IntsL l) := fun v H H' e ⟨p, h1, h2⟩ => ⟨p, h1, e p _ h2⟩
/-! ### the law's draws -/
def pCell (K : PySem.W.Frag) : V → V → Hp → VP → Prop := fun x y H R => ∃ (a : Addr) (ns : List Int) (i : Nat), x = .ref a ∧ SqL K H a (ns.map V.int) ∧ y = .int (i : Int) ∧ R = fun v _ => ∃ c : Int, v = .int c
def sp_law_cell (K : PySem.W.Frag) : Sp := spF2 (pCell K)
def t_law_cell (K : PySem.W.Frag) : TS := (tSeq (tIfS (tTest (tOp xLt (tVar 1) (tCB (rLenS K) (tCons (tVar 0) tNil)))) (tRet (tOp (rIxL K) (tVar 0) (tVar 1))) tNext)
    (tRet (tC (.int 0))))
theorem pure_law_cell {K : PySem.W.Frag} {vs : List V} {H : Hp} {Q : VK} {E : XK} (h : sp_law_cell K vs H Q E) : t_law_cell K { nx := fun _ H' => Q .non H', rt := Q } (start ["script", "k"] vs) H := by
  obtain ⟨x, y, R, rfl, ⟨a, ns, i, rfl, hs, rfl, rfl⟩, k⟩ := h
  refine q_when (et_test (ev_lt (ev_var rfl) (ev_len (ev_var rfl) hs))) (fun hc H1 e1 => ?_) (fun hc H1 e1 => ?_)
  · have h1 := of_decide_eq_true hc
    rw [List.length_map] at h1
    exact s_ret (ev_ints (ev_var rfl) (ev_var rfl) rfl (ex_l e1 hs) (by omega)) fun H2 e2 => k _ _ (e1.trans e2) ⟨_, rfl⟩
  · exact s_ret ev_c fun H2 e2 => k _ _ (e1.trans e2) ⟨_, rfl⟩
/-- so many numbers, each from 0 to 999 -/
def Drawn (n : Nat) : VP := fun v H => ∃ l : List Int, l.length = n ∧ (∀ x ∈ l, 0 ≤ x ∧ x < 1000) ∧ IntsL l v H
theorem drawn (n : Nat) : Mono (Drawn n) := fun v H H' e ⟨l, h1, h2, h3⟩ => ⟨l, h1, h2, intsL l _ _ _ e h3⟩
def pNumbers : V → V → V → Hp → VP → Prop := fun x y z H R => ∃ (c k : Int) (n : Nat), x = .int c ∧ y = .int k ∧ z = .int (n : Int) ∧ n ≤ 1000 ∧ R = Drawn n
def sp_law_numbers (K : PySem.W.Frag) : Sp := spF3 pNumbers
def t_law_numbers (K : PySem.W.Frag) : TS := (tSeq (tAsg (tLst tNil) (gName 3))
    (tSeq (tIfS (tTest (tOp xGe (tVar 0) (tOp xPow (tC (.int 10)) (tC (.int 18))))) (tSeq (tAsg (tVar 0) (gName 6))
    (tSeq (tFor (iRng1 (tCons (tVar 2) tNil)) (gName 5) (tSeq (tDrop (tBM K "list" rAppend (tVar 3) (tCons (tOp xMod (tCB xInt1 (tCons (tVar 6) tNil)) (tC (.int 1000))) tNil)))
    (tAsg (tOp xFdiv (tVar 6) (tC (.int 1000))) (gName 6))))
    (tRet (tVar 3)))) tNext)
    (tSeq (tAsg (tOp xMod (tCB xInt1 (tCons (tOp xAdd (tOp xAdd (tOp xMul (tVar 0) (tC (.int 48271))) (tOp xMul (tVar 1) (tC (.int 69621)))) (tC (.int 11))) tNil)) (tC (.int 2147483647))) (gName 4))
    (tSeq (tFor (iRng1 (tCons (tVar 2) tNil)) (gName 5) (tSeq (tAsg (tOp xMod (tCB xInt1 (tCons (tOp xAdd (tOp xAdd (tOp xMul (tVar 4) (tC (.int 16807))) (tOp xMul (tVar 5) (tC (.int 7919)))) (tC (.int 13))) tNil)) (tC (.int 2147483647))) (gName 4))
    (tSeq (tAsg (tOp xMod (tCB xInt1 (tCons (tOp xAdd (tOp xAdd (tOp xMul (tVar 4) (tVar 4)) (tOp xMul (tVar 1) (tC (.int 31)))) (tVar 5)) tNil)) (tC (.int 1000000007))) (gName 7))
    (tDrop (tBM K "list" rAppend (tVar 3) (tCons (tOp xMod (tCB xInt1 (tCons (tOp xFdiv (tVar 7) (tC (.int 101))) tNil)) (tC (.int 1000))) tNil))))))
    (tRet (tVar 3))))))
def WDraw (x y z : V) (l : Addr) (H0 : Hp) (ok : Int → Prop) (i : Nat) (σ : L2.St) (H : Hp) : Prop := ∃ (z4 z5 z6 z7 : Option V) (m : Int) (b : Bool) (ns : List Int),
  σ = [some x, some y, some z, some (.ref l), if b then some (.int m) else z4, z5, if b then z6 else some (.int m), z7] ∧ H0 l = none ∧ Ex H0 H ∧ H l = some (.lst (ns.map V.int)) ∧ ns.length = i ∧ ∀ v ∈ ns, 0 ≤ v ∧ v < 1000
theorem pure_law_numbers {K : PySem.W.Frag} {vs : List V} {H : Hp} {Q : VK} {E : XK} (h : sp_law_numbers K vs H Q E) : t_law_numbers K { nx := fun _ H' => Q .non H', rt := Q } (start ["cell", "k", "many", "numbers", "mixed", "j", "rest", "twice"] vs) H := by
  obtain ⟨x, y, z, R, rfl, ⟨c, kk, n, rfl, rfl, rfl, hn, rfl⟩, k⟩ := h
  refine q_asgL (el_lst ea_nil (by decide)) fun l H1 hl e1 h1 => ?_
  have snoc : ∀ {ns : List Int} {v : Int}, (∀ w ∈ ns, 0 ≤ w ∧ w < 1000) → 0 ≤ v ∧ v < 1000 → ∀ w ∈ ns ++ [v], 0 ≤ w ∧ w < 1000 := fun h1 h2 w hw => by
    rcases List.mem_append.mp hw with h | h
    · exact h1 w h
    · rw [List.mem_singleton.mp h]; exact h2
  refine q_when (et_test (ev_ge (ev_var rfl) (ev_pow ev_c ev_c ⟨by decide, by decide, by decide⟩))) (fun _ H2 e2 => ?_) (fun _ H2 e2 => ?_)
  · refine q_asg (ev_var rfl) fun H3 e3 => ?_
    refine q_forR1 (ea_cons (ev_var rfl) ea_nil) ⟨by omega, by omega⟩ (fun i σ H' => ∃ (z5 : Option V) (m : Int) (ns : List Int), σ = [some (.int c), some (.int kk), some (.int (n : Int)), some (.ref l), none, z5, some (.int m), none] ∧ Ex H H' ∧ H' l = some (.lst (ns.map V.int)) ∧ ns.length = i ∧ ∀ v ∈ ns, 0 ≤ v ∧ v < 1000)
      (fun H4 e4 => ⟨none, c, [], rfl, ((e1.trans e2).trans e3).trans e4, (e2.trans (e3.trans e4)) l _ h1, rfl, fun v h => by cases h⟩) ?_ ?_
    · rintro i σ H' hi ⟨z5, m, ns, rfl, e4, h4, h5, h6⟩
      refine q_app h4 (ev_var rfl) (ev_mod (ev_int1 (ev_var rfl)) ev_c (by decide)) (by rw [List.length_map]; omega) fun H5 e5 => ?_
      refine s_asg (ev_fdiv (ev_var rfl) ev_c ⟨by decide, by decide⟩) fun H6 e6 => ⟨_, _, ns ++ [m % 1000], rfl, (Ex.mut (e4.trans e5) hl).trans e6, by rw [List.map_append]; exact e6 l _ upd_same, by rw [List.length_append, h5]; rfl, snoc h6 (by omega)⟩
    · rintro σ H' ⟨z5, m, ns, rfl, e4, h4, h5, h6⟩
      exact s_ret (ev_var rfl) fun H5 e5 => k _ _ (e4.trans e5) ⟨ns, by rw [h5]; omega, h6, l, rfl, e5 l _ h4⟩
  · refine q_asg (ev_mod (ev_int1 (ev_add (ev_add (ev_mul (ev_var rfl) ev_c (.inr (by decide))) (ev_mul (ev_var rfl) ev_c (.inr (by decide)))) ev_c)) ev_c (by decide)) fun H3 e3 => ?_
    refine q_forR1 (ea_cons (ev_var rfl) ea_nil) ⟨by omega, by omega⟩ (fun i σ H' => ∃ (z5 z7 : Option V) (m : Int) (ns : List Int), σ = [some (.int c), some (.int kk), some (.int (n : Int)), some (.ref l), some (.int m), z5, none, z7] ∧ (0 ≤ m ∧ m < 2147483647) ∧ Ex H H' ∧ H' l = some (.lst (ns.map V.int)) ∧ ns.length = i ∧ ∀ v ∈ ns, 0 ≤ v ∧ v < 1000)
      (fun H4 e4 => ⟨none, none, _, [], rfl, by omega, ((e1.trans e2).trans e3).trans e4, (e2.trans (e3.trans e4)) l _ h1, rfl, fun v h => by cases h⟩) ?_ ?_
    · rintro i σ H' hi ⟨z5, z7, m, ns, rfl, hm, e4, h4, h5, h6⟩
      refine q_asg (ev_mod (ev_int1 (ev_add (ev_add (ev_mul (ev_var rfl) ev_c (.inr (by decide))) (ev_mul (ev_var rfl) ev_c (.inr (by decide)))) ev_c)) ev_c (by decide)) fun H5 e5 => ?_
      refine q_asg (ev_mod (ev_int1 (ev_add (ev_add (ev_mul (ev_var rfl) (ev_var rfl) (.inl (by constructor <;> omega))) (ev_mul (ev_var rfl) ev_c (.inr (by decide)))) (ev_var rfl))) ev_c (by decide)) fun H6 e6 => ?_
      refine s_app ((e5.trans e6) l _ h4) (ev_var rfl) (ev_mod (ev_int1 (ev_fdiv (ev_var rfl) ev_c ⟨by decide, by decide⟩)) ev_c (by decide)) (by rw [List.length_map]; omega) fun H7 e7 => ⟨_, _, _, ns ++ [_], rfl, by omega, Ex.mut (((e4.trans e5).trans e6).trans e7) hl, by rw [List.map_append]; exact upd_same, by rw [List.length_append, h5]; rfl, snoc h6 (by omega)⟩
    · rintro σ H' ⟨z5, z7, m, ns, rfl, hm, e4, h4, h5, h6⟩
      exact s_ret (ev_var rfl) fun H5 e5 => k _ _ (e4.trans e5) ⟨ns, by rw [h5]; omega, h6, l, rfl, e5 l _ h4⟩
end Sk

set_option Elab.async false
set_option linter.all false
set_option maxRecDepth 100000
set_option maxHeartbeats 2000000
namespace Sk
open PySem L2 Evl
section
variable {K : PySem.W.Frag} {σ : L2.St} {H : Hp} {te : TE} {ta : TA} {g : TG} {vs : List Nat}
theorem er_lcR {R : Nat → VP} {n : Int} (hsrc : EvA ta σ H [.int n]) (hn : 0 ≤ n ∧ n ≤ 90000) (m : ∀ i, MonoT (R i))
    (hb : ∀ (i : Nat) H1, (i : Int) < n → Ex H H1 → ∀ Qk : VK, (∀ v H2, Ex H1 H2 → R i v H2 → Qk v H2) → g (.int (i : Int)) (wipe σ vs) H1 fun σ2 H2 => wipe σ2 vs = wipe σ vs ∧ te σ2 H2 Qk) :
    ER (tLc (iRng1 ta) g tYes te vs) σ H (fun v H2 => ∃ p ys, v = .ref p ∧ H2 p = some (.lst ys) ∧ ys.length = n.toNat ∧ ∀ (j : Nat) (y : V), ys[j]? = some y → R j y H2) := fun H0 e0 Q q => hsrc H0 e0 _ fun H1 e1 => ⟨n, rfl, by omega, by omega, fun Dl hD =>
  lc_range (lo := 0) (n := n.toNat) (Made H1 Dl R) ⟨hD, Ex.new hD, [], upd_same, rfl, fun j y h => by simp at h⟩
    (fun i H' hi M => by
      have hi' : (i : Int) < n := by omega
      rw [Int.zero_add]
      exact hb i H' hi' ((e0.trans e1).trans M.2.1) _ fun y H2 e2 r => M.turn m (by omega) e2 r)
    (fun H' M => by
      obtain ⟨h1, h2, ys, h3, h4, h5⟩ := M
      exact q _ H' (e1.trans h2) ⟨Dl, ys, rfl, h3, h4, h5⟩)⟩
end
section
variable {K : PySem.W.Frag} {σ : L2.St} {H : Hp} {tl : TE} {g : TG} {D : Ends} {tz tu : TS}
theorem q_forTR {S : List V → Prop} (h : ER tl σ H (fun v H2 => ∃ p xs, v = .ref p ∧ H2 p = some (.tup xs) ∧ S xs)) (k : ∀ p xs H1, Ex H H1 → H1 p = some (.tup xs) → S xs → tSeq (tFor (iTup K (tC (.ref p))) g tu) tz D σ H1) : tSeq (tFor (iTup K tl) g tu) tz D σ H :=
  h H (Ex.refl H) _ fun v H1 e ⟨p, xs, hv, hp, hS⟩ => by
    subst hv
    exact k p xs H1 e hp hS
end
section
theorem ItemsR.mapI {α β : Type} {R : β → VP} {f : α → β} {l : List α} {ys : List V} {H : Hp} (h : ItemsR (fun a => R (f a)) l ys H) : ItemsR R (l.map f) ys H :=
  ⟨by rw [List.length_map]; exact h.1, fun i y b h1 h2 => by
    rw [List.getElem?_map] at h2
    cases hq : l[i]? with
    | none => rw [hq] at h2; cases h2
    | some a => rw [hq] at h2; cases h2; exact h.2 i y a h1 hq⟩
end
end Sk

set_option Elab.async false
set_option linter.all false
set_option maxRecDepth 100000
set_option maxHeartbeats 2000000
namespace Sk
open PySem L2 Evl
/-- drawn numbers, at least one, each from 0 to 1008 -/
def Pool : VP := fun v H => ∃ l : List Int, (0 < l.length ∧ l.length ≤ 4000) ∧ (∀ x ∈ l, 0 ≤ x ∧ x < 1009) ∧ IntsL l v H
theorem pool : Mono Pool := fun v H H' e ⟨l, h1, h2, h3⟩ => ⟨l, h1, h2, intsL l _ _ _ e h3⟩
def pStream (K : PySem.W.Frag) : V → Hp → VP → Prop := fun x H R => ∃ (a : Addr) (ns : List Int), x = .ref a ∧ SqL K H a (ns.map V.int) ∧ R = Pool
def sp_law_stream (K : PySem.W.Frag) : Sp := spF1 (pStream K)
def t_law_stream (K : PySem.W.Frag) : TS := (tSeq (tAsg (tLst tNil) (gName 1))
    (tSeq (tFor (iList K (tSl (rSlL K) (tVar 0) tNoPart (tPart (tC (.int 63))))) (gName 2) (tSeq (tAsg (tCB xInt1 (tCons (tVar 2) tNil)) (gName 3))
    (tIfS (tTest (tOp xGe (tVar 3) (tOp xPow (tC (.int 10)) (tC (.int 18))))) (tFor (iRng1 (tCons (tC (.int 60)) tNil)) (gName 4) (tSeq (tDrop (tBM K "list" rAppend (tVar 1) (tCons (tOp xMod (tCB xInt1 (tCons (tVar 3) tNil)) (tC (.int 1009))) tNil)))
    (tSeq (tAsg (tOp xFdiv (tVar 3) (tC (.int 1009))) (gName 3))
    (tIfS (tTest (tOp rEq (tVar 3) (tC (.int 0)))) tBreak tNext)))) (tSeq (tAsg (tOp xMod (tCB xInt1 (tCons (tVar 3) tNil)) (tC (.int 2147483647))) (gName 5))
    (tFor (iRng1 (tCons (tC (.int 10)) tNil)) (gName 4) (tSeq (tAsg (tOp xMod (tCB xInt1 (tCons (tOp xAdd (tOp xAdd (tOp xMul (tVar 5) (tC (.int 48271))) (tOp xMul (tC (.int 7)) (tVar 4))) (tC (.int 11))) tNil)) (tC (.int 2147483647))) (gName 5))
    (tDrop (tBM K "list" rAppend (tVar 1) (tCons (tOp xMod (tOp xMod (tCB xInt1 (tCons (tOp xAdd (tOp xMul (tVar 5) (tC (.int 69621))) (tVar 4)) tNil)) (tC (.int 2147483629))) (tC (.int 1009))) tNil)))))))))
    (tSeq (tIfS (tTest (tOp rEq (tCB (rLenS K) (tCons (tVar 1) tNil)) (tC (.int 0)))) (tDrop (tBM K "list" rAppend (tVar 1) (tCons (tC (.int 0)) tNil))) tNext)
    (tRet (tVar 1)))))
theorem snocP {m : Int} {ns : List Int} {v : Int} (h1 : ∀ w ∈ ns, 0 ≤ w ∧ w < m) (h2 : 0 ≤ v ∧ v < m) : ∀ w ∈ ns ++ [v], 0 ≤ w ∧ w < m := fun w hw => by
  rcases List.mem_append.mp hw with h | h
  · exact h1 w h
  · rw [List.mem_singleton.mp h]; exact h2
theorem cut_map {l : List Int} {n : Nat} : cutV (l.map V.int) none (some (n : Int)) = (l.take n).map V.int := by
  unfold cutV HT.sIx
  simp only [List.drop_zero, Nat.sub_zero]
  rw [if_neg (by omega), Int.toNat_natCast, List.map_take, List.length_map]
  rcases Nat.le_total n l.length with h | h
  · rw [Nat.min_eq_left h]
  · rw [Nat.min_eq_right h, List.take_of_length_le (by rw [List.length_map]; exact Nat.le_refl _), List.take_of_length_le (by rw [List.length_map]; exact h)]
theorem int_mem {l : List Int} {i : Nat} {x : V} (h : (l.map V.int)[i]? = some x) : ∃ n, x = .int n := by
  rw [List.getElem?_map] at h
  cases hq : l[i]? with
  | none => rw [hq] at h; cases h
  | some n => rw [hq] at h; cases h; exact ⟨n, rfl⟩
theorem modN {n : Nat} (k : Int) (h : 0 < n) : ∃ j : Nat, j < n ∧ k % (n : Int) = (j : Int) := by
  have h1 := Int.emod_nonneg k (show (n : Int) ≠ 0 by omega)
  have h2 := Int.emod_lt_of_pos k (show (0 : Int) < n by omega)
  exact ⟨(k % (n : Int)).toNat, by omega, by omega⟩
theorem pure_law_stream {K : PySem.W.Frag} {vs : List V} {H : Hp} {Q : VK} {E : XK} (h : sp_law_stream K vs H Q E) : t_law_stream K { nx := fun _ H' => Q .non H', rt := Q } (start ["script", "numbers", "cell", "rest", "k", "mixed"] vs) H := by
  obtain ⟨x, R, rfl, ⟨a, ns, rfl, hs, rfl⟩, k⟩ := h
  refine q_asgL (el_lst ea_nil (by decide)) fun l H1 hl e1 h1 => ?_
  refine q_forNLn (xs := (ns.take 63).map V.int) (by rw [← cut_map]; exact el_sl (ev_var rfl) eo_none (eo_some ev_c) (ex_l e1 hs))
    (fun p i σ H' => (p ≠ l ∧ H' p = some (.lst ((ns.take 63).map V.int))) ∧ ∃ (z2 z3 z4 z5 : Option V) (ms : List Int), σ = [some (.ref a), some (.ref l), z2, z3, z4, z5] ∧ Ex H H' ∧ H' l = some (.lst (ms.map V.int)) ∧ ms.length ≤ 60 * i ∧ ∀ w ∈ ms, 0 ≤ w ∧ w < 1009)
    (fun p H2 hp e2 h2 => ⟨⟨fun z => (by rw [z, h1] at hp; cases hp), h2⟩, none, none, none, none, [], rfl, e1.trans e2, e2 l _ h1, by decide, fun w hw => by cases hw⟩) (fun p i σ H' _ h => sq_of h.1.2) ?_ ?_
  · rintro p i x σ H' hi ⟨⟨hpl, hp⟩, z2, z3, z4, z5, ms, rfl, e2, h2, h3, h4⟩
    have hlen : i < 63 := by
      have := (List.getElem?_eq_some_iff.mp hi).1
      rw [List.length_map, List.length_take] at this
      omega
    obtain ⟨n, rfl⟩ := int_mem hi
    refine q_asg (ev_int1 (ev_var rfl)) fun H3 e3 => ?_
    refine s_if (et_test (ev_ge (ev_var rfl) (ev_pow ev_c ev_c ⟨by decide, by decide, by decide⟩))) (fun _ H4 e4 => ?_) (fun _ H4 e4 => ?_)
    · refine s_forR1 (ea_cons ev_c ea_nil) ⟨by decide, by decide⟩ (fun j σ H5 => H5 p = some (.lst ((ns.take 63).map V.int)) ∧ ∃ (m : Int) (z4 : Option V) (ms' : List Int), σ = [some (.ref a), some (.ref l), some (.int n), some (.int m), z4, z5] ∧ Ex H H5 ∧ H5 l = some (.lst (ms'.map V.int)) ∧ ms'.length = ms.length + j ∧ ∀ w ∈ ms', 0 ≤ w ∧ w < 1009)
        (fun H5 e5 => ⟨(e3.trans (e4.trans e5)) p _ hp, n, z4, ms, rfl, ((e2.trans e3).trans e4).trans e5, (e3.trans (e4.trans e5)) l _ h2, rfl, h4⟩) ?_ ?_
      · rintro j σ H5 hj ⟨hp5, m, z4, ms', rfl, e5, h5, h6, h7⟩
        refine q_app h5 (ev_var rfl) (ev_mod (ev_int1 (ev_var rfl)) ev_c (by decide)) (by rw [List.length_map]; omega) fun H6 e6 => ?_
        refine q_asg (ev_fdiv (ev_var rfl) ev_c ⟨by decide, by decide⟩) fun H7 e7 => ?_
        have fin : ∀ H8, Ex H7 H8 → H8 p = some (.lst ((ns.take 63).map V.int)) ∧ Ex H H8 ∧ H8 l = some (.lst ((ms' ++ [m % 1009]).map V.int)) := fun H8 e8 => ⟨(e7.trans e8) p _ (by rw [upd_ne hpl]; exact e6 p _ hp5), (Ex.mut (e5.trans e6) hl).trans (e7.trans e8), by rw [List.map_append]; exact (e7.trans e8) l _ upd_same⟩
        refine s_when (et_test (ev_eq (ev_var rfl) ev_c rfl)) (fun _ H8 e8 => ?_) (fun _ H8 e8 => ?_)
        · obtain ⟨f1, f2, f3⟩ := fin H8 e8
          exact ⟨⟨hpl, f1⟩, _, _, _, _, _, rfl, f2, f3, by rw [List.length_append]; simp; omega, snocP h7 (by omega)⟩
        · obtain ⟨f1, f2, f3⟩ := fin H8 e8
          exact ⟨f1, _, _, _, rfl, f2, f3, by rw [List.length_append, h6]; rfl, snocP h7 (by omega)⟩
      · rintro σ H5 ⟨hp5, m, z4, ms', rfl, e5, h5, h6, h7⟩
        exact ⟨⟨hpl, hp5⟩, _, _, _, _, ms', rfl, e5, h5, by have : (60 : Int).toNat = 60 := rfl; omega, h7⟩
    · refine q_asg (ev_mod (ev_int1 (ev_var rfl)) ev_c (by decide)) fun H5 e5 => ?_
      refine s_forR1 (ea_cons ev_c ea_nil) ⟨by decide, by decide⟩ (fun j σ H5 => H5 p = some (.lst ((ns.take 63).map V.int)) ∧ ∃ (m : Int) (z4 : Option V) (ms' : List Int), σ = [some (.ref a), some (.ref l), some (.int n), some (.int n), z4, some (.int m)] ∧ Ex H H5 ∧ H5 l = some (.lst (ms'.map V.int)) ∧ ms'.length = ms.length + j ∧ ∀ w ∈ ms', 0 ≤ w ∧ w < 1009)
        (fun H6 e6 => ⟨(e3.trans (e4.trans (e5.trans e6))) p _ hp, _, z4, ms, rfl, ((e2.trans e3).trans e4).trans (e5.trans e6), (e3.trans (e4.trans (e5.trans e6))) l _ h2, rfl, h4⟩) ?_ ?_
      · rintro j σ H6 hj ⟨hp6, m, z4, ms', rfl, e6, h6, h7, h8⟩
        refine q_asg (ev_mod (ev_int1 (ev_add (ev_add (ev_mul (ev_var rfl) ev_c (.inr (by decide))) (ev_mul ev_c (ev_var rfl) (.inl (by decide)))) ev_c)) ev_c (by decide)) fun H7 e7 => ?_
        refine s_app (e7 l _ h6) (ev_var rfl) (ev_mod (ev_mod (ev_int1 (ev_add (ev_mul (ev_var rfl) ev_c (.inr (by decide))) (ev_var rfl))) ev_c (by decide)) ev_c (by decide)) (by rw [List.length_map]; omega) fun H8 e8 => ?_
        exact ⟨by rw [upd_ne hpl]; exact (e7.trans e8) p _ hp6, _, _, ms' ++ [_], rfl, Ex.mut ((e6.trans e7).trans e8) hl, by rw [List.map_append]; exact upd_same, by rw [List.length_append, h7]; rfl, snocP h8 (by omega)⟩
      · rintro σ H6 ⟨hp6, m, z4, ms', rfl, e6, h6, h7, h8⟩
        exact ⟨⟨hpl, hp6⟩, _, _, _, _, ms', rfl, e6, h6, by have : (10 : Int).toNat = 10 := rfl; omega, h8⟩
  · rintro p σ H' ⟨hp, z2, z3, z4, z5, ms, rfl, e2, h2, h3, h4⟩
    have hlen : ((ns.take 63).map V.int).length ≤ 63 := by rw [List.length_map, List.length_take]; omega
    refine q_when (et_test (ev_eq (ev_len (ev_var rfl) (sq_of h2)) ev_c rfl)) (fun hc H3 e3 => ?_) (fun hc H3 e3 => ?_)
    · refine s_app (e3 l _ h2) (ev_var rfl) ev_c (by rw [List.length_map]; omega) fun H4 e4 => ?_
      exact s_ret (ev_var rfl) fun H5 e5 => k _ _ ((Ex.mut ((e2.trans e3).trans e4) hl).trans e5) ⟨ms ++ [0], by rw [List.length_append]; simp; omega, snocP h4 (by omega), l, rfl, by rw [List.map_append]; exact e5 l _ upd_same⟩
    · have h0 := of_decide_eq_false hc
      rw [List.length_map] at h0
      have h0' : ms.length ≠ 0 := fun z => h0 (by rw [z]; rfl)
      exact s_ret (ev_var rfl) fun H4 e4 => k _ _ (e2.trans (e3.trans e4)) ⟨ms, by omega, h4, l, rfl, (e3.trans e4) l _ h2⟩
def pPick : V → V → V → Hp → VP → Prop := fun x y z H R => ∃ (k : Int) (n : Nat), Pool x H ∧ y = .int k ∧ z = .int (n : Int) ∧ 0 < n ∧ R = fun v _ => ∃ j : Nat, j < n ∧ v = .int (j : Int)
def sp_law_pick (K : PySem.W.Frag) : Sp := spF3 pPick
def t_law_pick (K : PySem.W.Frag) : TS := (tRet (tOp xMod (tCB xInt1 (tCons (tOp (rIxL K) (tVar 0) (tOp xMod (tVar 1) (tCB (rLenS K) (tCons (tVar 0) tNil)))) tNil)) (tVar 2)))
theorem pure_law_pick {K : PySem.W.Frag} {vs : List V} {H : Hp} {Q : VK} {E : XK} (h : sp_law_pick K vs H Q E) : t_law_pick K { nx := fun _ H' => Q .non H', rt := Q } (start ["numbers", "at", "many"] vs) H := by
  obtain ⟨x, y, z, R, rfl, ⟨kk, n, ⟨l, hl, hb, p, rfl, hp⟩, rfl, rfl, hn, rfl⟩, k⟩ := h
  obtain ⟨i, hi2, hi1⟩ := modN kk hl.1
  rw [← List.length_map (f := V.int)] at hi1
  obtain ⟨j, hj1, hj2⟩ := modN (l.getD i 0) hn
  refine s_ret (ev_mod (ev_int1 (ev_ints (i := i) (ev_var rfl) (ev_mod (ev_var rfl) (ev_len (ev_var rfl) (sq_of hp)) (by rw [List.length_map]; omega)) hi1 (sq_of hp) hi2)) (ev_var rfl) (by omega)) fun H1 e1 => k _ _ e1 ⟨j, hj1, congrArg V.int hj2⟩
def pTwo : V → Hp → VP → Prop := fun x H R => ∃ n : Nat, x = .int (n : Int) ∧ n ≤ 90000 ∧ R = fun v _ => v = .int (2 ^ n)
def sp_law_two (K : PySem.W.Frag) : Sp := spF1 pTwo
def t_law_two (K : PySem.W.Frag) : TS := (tSeq (tAsg (tC (.int 1)) (gName 1))
    (tSeq (tFor (iRng1 (tCons (tVar 0) tNil)) (gName 2) (tAsg (tOp xMul (tVar 1) (tC (.int 2))) (gName 1)))
    (tRet (tVar 1))))
theorem pure_law_two {K : PySem.W.Frag} {vs : List V} {H : Hp} {Q : VK} {E : XK} (h : sp_law_two K vs H Q E) : t_law_two K { nx := fun _ H' => Q .non H', rt := Q } (start ["count", "value", "k"] vs) H := by
  obtain ⟨x, R, rfl, ⟨n, rfl, hn, rfl⟩, k⟩ := h
  refine q_asg ev_c fun H1 e1 => ?_
  refine q_forR1 (ea_cons (ev_var rfl) ea_nil) ⟨by omega, by omega⟩ (fun i σ H' => ∃ z : Option V, σ = [some (.int (n : Int)), some (.int (2 ^ i)), z] ∧ Ex H H') (fun H2 e2 => ⟨none, rfl, e1.trans e2⟩) ?_ ?_
  · rintro i σ H' hi ⟨z, rfl, e2⟩
    refine s_asg (v := .int (2 ^ (i + 1))) (ev_is (ev_mul (ev_var rfl) ev_c (.inr (by decide))) (congrArg V.int (Int.pow_succ 2 i).symm)) fun H3 e3 => ⟨_, rfl, e2.trans e3⟩
  · rintro σ H' ⟨z, rfl, e2⟩
    exact s_ret (ev_var rfl) fun H3 e3 => k _ _ (e2.trans e3) (by rw [Int.toNat_natCast])
end Sk

set_option Elab.async false
set_option linter.all false
set_option maxRecDepth 100000
set_option maxHeartbeats 1000000
namespace Sk
namespace Tk
/-! ### tokens of a list of signs -/
def letters : List Nat := [97, 98, 99, 100, 101, 102, 103, 104, 105, 106, 107, 108, 109, 110, 111, 112, 113, 114, 115, 116, 117, 118, 119, 120, 121, 122, 65, 66, 67, 68, 69, 70, 71, 72, 73, 74, 75, 76, 77, 78, 79, 80, 81, 82, 83, 84, 85, 86, 87, 88, 89, 90]
def digits : List Nat := [48, 49, 50, 51, 52, 53, 54, 55, 56, 57]
def marks : List (List Nat) := [[60, 60], [62, 62], [60, 61], [61, 61], [33, 61], [43], [45], [42], [40], [41], [44], [61], [59], [123], [125], [60]]
def isL (c : Nat) : Bool := decide (c ∈ letters)
def isD (c : Nat) : Bool := decide (c ∈ digits)
def markAt (l : List Nat) : Option (List Nat) := marks.find? fun m => decide (l.take m.length = m)
def tk (l : List Nat) : Option (List Nat) :=
  if l.takeWhile isL ≠ [] then some (l.takeWhile isL)
  else if l.takeWhile isD = [50] ∧ (l.drop 1).take 1 = [94] then some [50, 94]
  else if l.takeWhile isD ≠ [] then some (l.takeWhile isD)
  else markAt l
inductive Toks : List Nat → Option (List (List Nat)) → Prop
  | nil : Toks [] (some [])
  | sp {r o} : Toks r o → Toks (32 :: r) o
  | tok {c r t o} : c ≠ 32 → tk (c :: r) = some t → Toks ((c :: r).drop t.length) o → Toks (c :: r) (o.map (t :: ·))
  | bad {c r} : c ≠ 32 → tk (c :: r) = none → Toks (c :: r) none
theorem take_of_takeWhile (P : Nat → Bool) : ∀ l : List Nat, l.take (l.takeWhile P).length = l.takeWhile P
  | [] => rfl
  | c :: r => by
    rw [List.takeWhile_cons]
    cases P c
    · rfl
    · show (c :: r).take ((r.takeWhile P).length + 1) = c :: r.takeWhile P
      rw [List.take_succ_cons, take_of_takeWhile P r]
theorem mem_takeWhile {P : Nat → Bool} : ∀ {l : List Nat} {x : Nat}, x ∈ l.takeWhile P → P x = true
  | [], x, h => by cases h
  | c :: r, x, h => by
    rw [List.takeWhile_cons] at h
    cases hp : P c with
    | false => rw [hp] at h; cases h
    | true =>
      rw [hp] at h
      rcases List.mem_cons.mp h with h | h
      · rw [h]; exact hp
      · exact mem_takeWhile h
theorem marks_ok : ∀ m ∈ marks, m ≠ [] ∧ 32 ∉ m := by decide
theorem digit_two {l : List Nat} (h : l.takeWhile isD = [50]) (h2 : (l.drop 1).take 1 = [94]) : l.take 2 = [50, 94] := by
  have := take_of_takeWhile isD l
  rw [h] at this
  rw [show (2 : Nat) = 1 + 1 from rfl, List.take_add, h2]
  rw [show ([50] : List Nat).length = 1 from rfl] at this
  rw [this]; rfl
/-- what a token is -/
theorem tk_ok {l t : List Nat} (h : tk l = some t) : l.take t.length = t ∧ t ≠ [] ∧ 32 ∉ t := by
  unfold tk at h
  split at h
  · rename_i h1; cases h
    exact ⟨take_of_takeWhile _ _, h1, fun hm => absurd (mem_takeWhile hm) (by decide)⟩
  · split at h
    · rename_i h2; cases h
      exact ⟨digit_two h2.1 h2.2, by decide, by decide⟩
    · split at h
      · rename_i h3; cases h
        exact ⟨take_of_takeWhile _ _, h3, fun hm => absurd (mem_takeWhile hm) (by decide)⟩
      · unfold markAt at h
        have h1 := List.find?_some h
        have h2 := List.mem_of_find?_eq_some h
        exact ⟨of_decide_eq_true h1, marks_ok t h2⟩
theorem total : ∀ (n : Nat) (l : List Nat), l.length ≤ n → ∃ o, Toks l o
  | n, [], _ => ⟨_, .nil⟩
  | n + 1, c :: r, h => by
    by_cases hc : c = 32
    · subst hc
      obtain ⟨o, ho⟩ := total n r (by simpa using h)
      exact ⟨o, .sp ho⟩
    · cases ht : tk (c :: r) with
      | none => exact ⟨_, .bad hc ht⟩
      | some t =>
        have h2 := (tk_ok ht).2.1
        have h3 : 0 < t.length := by
          cases t with
          | nil => exact absurd rfl h2
          | cons => exact Nat.succ_pos _
        obtain ⟨o, ho⟩ := total n ((c :: r).drop t.length) (by rw [List.length_drop]; omega)
        exact ⟨_, .tok hc ht ho⟩
/-! ### good tokens put together -/
def good (t : List Nat) : Prop := t ∈ [[43], [45], [42], [60, 60], [62, 62], [40], [41], [44], [61], [59], [123], [125], [60], [60, 61], [61, 61], [33, 61], [50, 94]] ∨ (t ≠ [] ∧ ∀ c ∈ t, isL c = true) ∨ (t ≠ [] ∧ ∀ c ∈ t, isD c = true)
def cont (t : List Nat) (c : Nat) : Bool :=
  (match t.getLast? with | some z => (isL z && isL c) || (isD z && isD c) || (decide (z ∈ [60, 62, 61, 33]) && decide (c ∈ [60, 62, 61])) | none => false) || (decide (t = [50]) && decide (c = 94))
def okN (t r : List Nat) : Prop := ∀ c ∈ r.head?, cont t c = false
theorem takeWhile_all {P : Nat → Bool} : ∀ {t r : List Nat}, (∀ c ∈ t, P c = true) → (∀ c ∈ r.head?, P c = false) → (t ++ r).takeWhile P = t
  | [], [], _, _ => rfl
  | [], c :: r, _, h => by
    show (c :: r).takeWhile P = []
    rw [List.takeWhile_cons, h c rfl]; rfl
  | c :: t, r, h1, h2 => by
    show (c :: (t ++ r)).takeWhile P = c :: t
    rw [List.takeWhile_cons, h1 c (List.mem_cons_self ..)]
    exact congrArg (c :: ·) (takeWhile_all (fun x hx => h1 x (List.mem_cons_of_mem _ hx)) h2)
theorem last_mem {t : List Nat} {z : Nat} (h : t.getLast? = some z) : z ∈ t := List.mem_of_getLast? h
theorem not_both (c : Nat) (h : isD c = true) : isL c = false := by
  have := of_decide_eq_true h
  simp only [digits, List.mem_cons, List.not_mem_nil, or_false] at this
  rcases this with h | h | h | h | h | h | h | h | h | h <;> subst h <;> decide
theorem tk_good {t r : List Nat} (h : good t) (hr : okN t r) : tk (t ++ r) = some t := by
  rcases h with h | ⟨h0, h⟩ | ⟨h0, h⟩
  · simp only [List.mem_cons, List.not_mem_nil, or_false] at h
    rcases h with h | h | h | h | h | h | h | h | h | h | h | h | h | h | h | h | h <;> subst h <;> cases r with
    | nil => decide
    | cons c r =>
      have hc := hr c rfl
      try simp [cont, isL, isD, letters, digits] at hc
      first
        | (simp [tk, isL, isD, letters, digits, List.takeWhile_cons, markAt, marks, List.find?]; done)
        | (simp [tk, isL, isD, letters, digits, List.takeWhile_cons, markAt, marks, List.find?, hc]; done)
  · have e : (t ++ r).takeWhile isL = t := takeWhile_all h fun c hc => by
      obtain ⟨z, hz⟩ : ∃ z, t.getLast? = some z := ⟨_, List.getLast?_eq_getLast h0⟩
      have := hr c hc
      unfold cont at this
      rw [hz] at this
      simp only [Bool.or_eq_false_iff, Bool.and_eq_false_iff] at this
      rcases this.1.1.1 with q | q
      · rw [h z (last_mem hz)] at q; cases q
      · exact q
    unfold tk
    rw [e, if_pos h0]
  · have e : (t ++ r).takeWhile isD = t := takeWhile_all h fun c hc => by
      obtain ⟨z, hz⟩ : ∃ z, t.getLast? = some z := ⟨_, List.getLast?_eq_getLast h0⟩
      have := hr c hc
      unfold cont at this
      rw [hz] at this
      simp only [Bool.or_eq_false_iff, Bool.and_eq_false_iff] at this
      rcases this.1.1.2 with q | q
      · rw [h z (last_mem hz)] at q; cases q
      · exact q
    have e2 : (t ++ r).takeWhile isL = [] := by
      cases t with
      | nil => exact absurd rfl h0
      | cons c t =>
        show (c :: (t ++ r)).takeWhile isL = []
        rw [List.takeWhile_cons, not_both c (h c (List.mem_cons_self ..))]; rfl
    unfold tk
    rw [e2, if_neg (by simp), e]
    rw [if_neg, if_pos h0]
    rintro ⟨rfl, q⟩
    cases r with
    | nil => cases q
    | cons c r =>
      have := hr c rfl
      have hc : c = 94 := by simpa using q
      subst hc
      revert this
      decide
theorem good_ne {t : List Nat} (h : good t) : t ≠ [] ∧ t.head? ≠ some 32 := by
  have hL : isL 32 = false := by decide
  have hD : isD 32 = false := by decide
  rcases h with h | ⟨h0, h⟩ | ⟨h0, h⟩
  · revert t; decide
  · exact ⟨h0, fun q => by
      cases t with
      | nil => cases q
      | cons c t => cases q; rw [h 32 (List.mem_cons_self ..)] at hL; cases hL⟩
  · exact ⟨h0, fun q => by
      cases t with
      | nil => cases q
      | cons c t => cases q; rw [h 32 (List.mem_cons_self ..)] at hD; cases hD⟩
theorem toks_good {t r : List Nat} {o} (h : good t) (hr : okN t r) (ho : Toks r o) : Toks (t ++ r) (o.map (t :: ·)) := by
  have h1 := tk_good h hr
  have h2 := good_ne h
  cases t with
  | nil => exact absurd rfl h2.1
  | cons c t =>
    refine .tok (fun q => h2.2 (by rw [q]; rfl)) h1 ?_
    have : (c :: (t ++ r)).drop (c :: t).length = r := by
      show ((c :: t) ++ r).drop (c :: t).length = r
      exact List.drop_left
    change Toks (List.drop (c :: t).length (c :: (t ++ r))) o
    rw [this]
    exact ho
theorem toks_sp {r : List Nat} {o} (h : Toks r o) : ∀ g : Nat, Toks (List.replicate g 32 ++ r) o
  | 0 => h
  | g + 1 => .sp (toks_sp h g)
theorem cont_sp (t : List Nat) : cont t 32 = false := by
  unfold cont
  have hL : isL 32 = false := by decide
  have hD : isD 32 = false := by decide
  rw [hL, hD]
  cases t.getLast? <;> simp
/-- a text so far: its tokens are ts, whatever follows (if it does not go on with the last one) -/
def Pre (ts : List (List Nat)) (l : List Nat) : Prop := ∀ r o, (∀ t ∈ ts.getLast?, okN t r) → Toks r o → Toks (l ++ r) (o.map (ts ++ ·))
theorem pre_nil (g : Nat) : Pre [] (List.replicate g 32) := fun r o _ h => by
  have : o.map (([] : List (List Nat)) ++ ·) = o := by cases o <;> rfl
  rw [this]
  exact toks_sp h g
theorem pre_snoc {ts : List (List Nat)} {l t : List Nat} {g : Nat} (h : Pre ts l) (hg : good t) (hs : g = 0 → ∀ u ∈ ts.getLast?, ∀ c ∈ t.head?, cont u c = false) : Pre (ts ++ [t]) (l ++ List.replicate g 32 ++ t) := fun r o hr ho => by
  have h1 := toks_sp (toks_good hg (hr t (by simp)) ho) g
  have h2 := h _ _ (fun u hu c hc => by
    cases g with
    | zero =>
      refine hs rfl u hu c ?_
      have hn := (good_ne hg).1
      cases t with
      | nil => exact absurd rfl hn
      | cons d t => exact hc
    | succ g =>
      have : c = 32 := by simpa [List.replicate_succ] using hc.symm
      rw [this]; exact cont_sp u) h1
  rw [List.append_assoc, List.append_assoc]
  have : (o.map (t :: ·)).map (ts ++ ·) = o.map ((ts ++ [t]) ++ ·) := by cases o <;> simp
  rw [this] at h2
  exact h2
theorem pre_end {ts : List (List Nat)} {l : List Nat} (h : Pre ts l) (g : Nat) : Toks (l ++ List.replicate g 32) (some ts) := by
  have h1 : Toks (List.replicate g 32) (some []) := by
    have := toks_sp .nil g
    rw [List.append_nil] at this
    exact this
  have := h _ _ (fun u hu c hc => by
    cases g with
    | zero => cases hc
    | succ g =>
      have : c = 32 := by simpa [List.replicate_succ] using hc.symm
      rw [this]; exact cont_sp u) h1
  simpa using this
/-! ### what is refused -/
def bads : List (List Nat) := [[33], [94], [62], [35], [46], [95], [50, 32, 94], [47], [38], [63]]
theorem bad_here {b : List Nat} (hb : b ∈ bads) (B : List Nat) : ∀ {o}, Toks (b ++ 32 :: B) o → o = none := by
  have key : ∀ (c : Nat) (R : List Nat), c ≠ 32 → tk (c :: R) = none → ∀ {o}, Toks (c :: R) o → o = none := fun c R hc h o ho => by
    cases ho with
    | sp => exact absurd rfl hc
    | tok h1 h2 h3 => rw [h] at h2; cases h2
    | bad => rfl
  simp only [bads, List.mem_cons, List.not_mem_nil, or_false] at hb
  intro o ho
  rcases hb with h | h | h | h | h | h | h | h | h | h <;> subst h
  · exact key _ _ (by decide) (by simp [tk, isL, isD, letters, digits, List.takeWhile_cons, markAt, marks, List.find?]) ho
  · exact key _ _ (by decide) (by simp [tk, isL, isD, letters, digits, List.takeWhile_cons, markAt, marks, List.find?]) ho
  · exact key _ _ (by decide) (by simp [tk, isL, isD, letters, digits, List.takeWhile_cons, markAt, marks, List.find?]) ho
  · exact key _ _ (by decide) (by simp [tk, isL, isD, letters, digits, List.takeWhile_cons, markAt, marks, List.find?]) ho
  · exact key _ _ (by decide) (by simp [tk, isL, isD, letters, digits, List.takeWhile_cons, markAt, marks, List.find?]) ho
  · exact key _ _ (by decide) (by simp [tk, isL, isD, letters, digits, List.takeWhile_cons, markAt, marks, List.find?]) ho
  rotate_left
  · exact key _ _ (by decide) (by simp [tk, isL, isD, letters, digits, List.takeWhile_cons, markAt, marks, List.find?]) ho
  · exact key _ _ (by decide) (by simp [tk, isL, isD, letters, digits, List.takeWhile_cons, markAt, marks, List.find?]) ho
  · exact key _ _ (by decide) (by simp [tk, isL, isD, letters, digits, List.takeWhile_cons, markAt, marks, List.find?]) ho
  have ht : tk (50 :: 32 :: 94 :: 32 :: B) = some [50] := by simp [tk, isL, isD, letters, digits, List.takeWhile_cons]
  cases ho with
  | bad h1 h2 => rfl
  | tok h1 h2 h3 =>
    have h2' : some [50] = some _ := ht.symm.trans h2
    cases h2'
    have h4 := h3
    change Toks (32 :: 94 :: 32 :: B) _ at h4
    cases h4 with
    | tok q _ _ => exact absurd rfl q
    | bad q _ => rfl
    | sp h5 =>
      rw [key 94 _ (by decide) (by simp [tk, isL, isD, letters, digits, List.takeWhile_cons, markAt, marks, List.find?]) h5]
      rfl
theorem bad_any {b : List Nat} (hb : b ∈ bads) (B : List Nat) {l : List Nat} {o} (h : Toks l o) : ∀ A, l = A ++ 32 :: (b ++ 32 :: B) → o = none := by
  induction h with
  | nil => intro A h; cases A <;> cases h
  | @sp r o h ih =>
    intro A hA
    cases A with
    | nil => cases hA; exact bad_here hb B h
    | cons c A => cases hA; exact ih A rfl
  | bad => intro A hA; rfl
  | @tok c r t o hc ht h ih =>
    intro A hA
    obtain ⟨h1, h2, h3⟩ := tk_ok ht
    have hle : t.length ≤ A.length := by
      rcases Nat.lt_or_ge A.length t.length with q | q
      · exfalso
        apply h3
        rw [← h1, hA]
        have : (A ++ 32 :: (b ++ 32 :: B))[A.length]? = some 32 := by rw [List.getElem?_append_right (Nat.le_refl _), Nat.sub_self]; rfl
        have h5 : ((A ++ 32 :: (b ++ 32 :: B)).take t.length)[A.length]? = some 32 := by rw [List.getElem?_take_of_lt q, this]
        exact List.mem_of_getElem? h5
      · exact q
    rw [ih (A.drop t.length) (by rw [hA, List.drop_append_of_le_length hle])]
    rfl
end Tk
end Sk

set_option Elab.async false
set_option linter.all false
set_option maxRecDepth 100000
set_option maxHeartbeats 1000000
namespace Sk
open PySem L2 Evl
/-- a text of these signs -/
def mkS (l : List Nat) : Str := ⟨l.toArray⟩
abbrev vS (l : List Nat) : V := .str (mkS l)
theorem mkS_len (l : List Nat) : (mkS l).length = l.length := by simp [mkS, Str.length]
theorem mkS_inj {l m : List Nat} : mkS l = mkS m ↔ l = m := ⟨fun h => by simpa [mkS] using h, fun h => by rw [h]⟩
theorem mkS_app (l m : List Nat) : mkS l ++ mkS m = mkS (l ++ m) := by
  show (⟨l.toArray ++ m.toArray⟩ : Str) = ⟨(l ++ m).toArray⟩
  simp
theorem vS_dec {l m : List Nat} : decide (vS l = vS m) = decide (l = m) := by
  rw [Bool.eq_iff_iff, decide_eq_true_eq, decide_eq_true_eq]
  exact ⟨fun h => by injection h with h; exact mkS_inj.mp h, fun h => by rw [h]⟩
/-! ### reading terms -/
def xAddS : R2 := fun x y H Q => ∃ i j, x = .str i ∧ y = .str j ∧ i.length + j.length ≤ sizeLine ∧ Q (.str (i ++ j)) H
def rInS1 : R2 := fun x y H Q => ∃ (c : Nat) (z : Str), x = .str ⟨#[c]⟩ ∧ y = .str z ∧ Q (.bl (decide (c ∈ z.cps.toList))) H
def xLenS : List V → Hp → VK → Prop := fun xs H Q => ∃ z, xs = [.str z] ∧ z.length ≤ sizeLine ∧ Q (.int z.length) H
/-- a text of n times one sign -/
def xRepS : R2 := fun x y H Q => ∃ (c n : Nat), x = vS [c] ∧ y = .int (n : Int) ∧ n ≤ 100000 ∧ Q (vS (List.replicate n c)) H
theorem fold_rep (c : Nat) : ∀ (n : Nat) (acc : List Nat), (List.replicate n #[c]).foldl (· ++ ·) acc.toArray = (acc ++ List.replicate n c).toArray
  | 0, acc => by simp
  | n + 1, acc => by
    rw [List.replicate_succ, List.foldl_cons]
    have : acc.toArray ++ #[c] = (acc ++ [c]).toArray := by simp
    rw [this, fold_rep c n]
    simp [List.replicate_succ]
theorem op_repS {X : Cx} : OpR X (binaryOp .Mult) xRepS := by
  intro pins s σ H x y v u Q I rx ry h
  obtain ⟨c, n, rfl, rfl, hn, q⟩ := h
  obtain ⟨t, rfl⟩ := rx
  obtain ⟨t', rfl⟩ := ry
  have hl1 : (mkS [c]).length = 1 := mkS_len [c]
  refine PySem.P.mul_str (by rw [decide_eq_false (by omega), decide_eq_false (by omega)]; rfl) (fun h1 h2 => ?_) (fun h1 h2 => ?_) ?_
  · rw [hl1]
    have h3 : 0 < (n : Int) := by omega
    have : (1 : Int) ≤ (2 ^ 63 - 1) / (n : Int) := Int.le_ediv_of_mul_le h3 (by omega)
    omega
  · rw [hl1, Nat.one_mul, Int.toNat_natCast]
    unfold Builtin.Str.tooLong
    simp [sizeLine]
    omega
  · by_cases h0 : (n : Int) < 1
    · rw [if_pos h0]
      have : n = 0 := by omega
      subst this
      exact ⟨by decide, ⟨vS [], H, I.tok _, ⟨_, rfl⟩, q⟩⟩
    · rw [if_neg h0]
      by_cases h1 : n = 1
      · subst h1
        rw [if_pos (by rfl)]
        exact ⟨vS [c], H, I, ⟨_, rfl⟩, q⟩
      · rw [if_neg (by rw [hl1]; simp; omega), Int.toNat_natCast]
        have e : (⟨(List.replicate n (mkS [c]).cps).foldl (· ++ ·) #[]⟩ : Str) = mkS (List.replicate n c) := by
          have := fold_rep c n []
          rw [List.nil_append] at this
          exact congrArg Str.mk this
        rw [e]
        exact ⟨by show (mkS _).length ≤ _; rw [mkS_len, List.length_replicate]; exact Nat.le_trans hn (by decide), ⟨vS _, H, I.tok _, ⟨_, rfl⟩, q⟩⟩
section
variable {K : PySem.W.Frag} {σ : L2.St} {H : Hp} {ta tb tc : TE} {l m : List Nat} {c : Nat}
theorem szS {n : Nat} (h : n ≤ 100000) : n ≤ sizeLine := Nat.le_trans h (by decide)
theorem ev_addS (ha : Ev ta σ H (vS l)) (hb : Ev tb σ H (vS m)) (hz : l.length + m.length ≤ 100000) : Ev (tOp xAddS ta tb) σ H (vS (l ++ m)) := ev_op ha hb fun H1 _ Q q => ⟨_, _, rfl, rfl, by rw [mkS_len, mkS_len]; exact szS hz, by rw [mkS_app]; exact q H1 (Ex.refl H1)⟩
theorem ev_repS {n : Nat} (ha : Ev ta σ H (vS [c])) (hb : Ev tb σ H (.int (n : Int))) (hz : n ≤ 100000) : Ev (tOp xRepS ta tb) σ H (vS (List.replicate n c)) := ev_op ha hb fun H1 _ Q q => ⟨c, n, rfl, rfl, hz, q H1 (Ex.refl H1)⟩
theorem ev_lenS (ha : Ev ta σ H (vS l)) (hz : l.length ≤ 100000) : Ev (tCB xLenS (tCons ta tNil)) σ H (.int (l.length : Int)) := ev_cb (ea_cons ha ea_nil) fun H1 e Q q => ⟨_, rfl, by rw [mkS_len]; exact szS hz, by rw [mkS_len]; exact q H1 (Ex.refl H1)⟩
theorem ev_atS {k : Int} (ha : Ev ta σ H (vS l)) (hb : Ev tb σ H (.int k)) (hz : l.length ≤ 100000) (hc : atI l k = some c) : Ev (tOp rIxS ta tb) σ H (vS [c]) := ev_op ha hb fun H1 _ Q q => ⟨_, _, c, rfl, rfl, by rw [mkS_len]; exact szS hz, hc, q H1 (Ex.refl H1)⟩
theorem ev_inS (ha : Ev ta σ H (vS [c])) (hb : Ev tb σ H (vS l)) : Ev (tOp rInS1 ta tb) σ H (.bl (decide (c ∈ l))) := ev_op ha hb fun H1 _ Q q => ⟨c, _, rfl, rfl, q H1 (Ex.refl H1)⟩
theorem ev_slS {tl th : TO} {lo hi : Option Int} (ha : Ev ta σ H (vS l)) (h1 : EvO tl σ H lo) (h2 : EvO th σ H hi) (hz : l.length ≤ 100000) : Ev (tSl rSlS ta tl th) σ H (vS ((l.drop (HT.sIx l.length 0 lo)).take (HT.sIx l.length l.length hi - HT.sIx l.length 0 lo))) := fun H0 e Q q =>
  ha H0 e _ fun H2 e2 => h1 H2 (e.trans e2) _ fun H3 e3 => h2 H3 (e.trans (e2.trans e3)) _ fun H4 e4 => ⟨_, rfl, by rw [mkS_len]; exact szS hz, by
    have : cutS (mkS l) lo hi = mkS ((l.drop (HT.sIx l.length 0 lo)).take (HT.sIx l.length l.length hi - HT.sIx l.length 0 lo)) := by
      unfold cutS
      rw [mkS_len]
      rfl
    rw [this]
    exact q H4 (e2.trans (e3.trans e4))⟩
theorem ev_eqS (ha : Ev ta σ H (vS l)) (hb : Ev tb σ H (vS m)) : Ev (tOp rEq ta tb) σ H (.bl (decide (l = m))) := by
  have := ev_eq ha hb rfl
  rw [vS_dec] at this
  exact this
theorem et_truS (ha : Ev ta σ H (vS l)) (hz : l.length ≤ 100000) : EvT (tTruK K ta) σ H (!l.isEmpty) := fun H1 e Q q => ha H1 e _ fun H2 e2 => ⟨_, ⟨by rw [mkS_len]; exact szS hz, rfl⟩, by
  have : (((mkS l).length : Int) != 0) = !l.isEmpty := by
    rw [mkS_len]
    cases l with
    | nil => rfl
    | cons a r => simp; omega
  rw [this]
  exact q H2 e2⟩
theorem sl_nat {l : List Nat} {i j : Nat} (hi : i ≤ l.length) (hj : j ≤ l.length) : ((l.drop (HT.sIx l.length 0 (some (i : Int)))).take (HT.sIx l.length l.length (some (j : Int)) - HT.sIx l.length 0 (some (i : Int)))) = (l.drop i).take (j - i) := by
  rw [HT.sIx_nat, HT.sIx_nat, Nat.min_eq_left hi, Nat.min_eq_left hj]
theorem sl_any {l : List Nat} {i j : Nat} (hi : i ≤ l.length) : ((l.drop (HT.sIx l.length 0 (some (i : Int)))).take (HT.sIx l.length l.length (some (j : Int)) - HT.sIx l.length 0 (some (i : Int)))) = (l.drop i).take (j - i) := by
  rcases Nat.le_total j l.length with h | h
  · exact sl_nat hi h
  · rw [HT.sIx_nat, HT.sIx_nat, Nat.min_eq_left hi, Nat.min_eq_right h]
    rw [List.take_of_length_le (by rw [List.length_drop]; exact Nat.le_refl _), List.take_of_length_le (by rw [List.length_drop]; omega)]
theorem ev_cut {te tf : TE} {a b : Int} {i j : Nat} (ha : Ev ta σ H (vS l)) (h1 : Ev te σ H (.int a)) (ea : a = (i : Int)) (h2 : Ev tf σ H (.int b)) (eb : b = (j : Int)) (hi : i ≤ l.length) (hz : l.length ≤ 100000) : Ev (tSl rSlS ta (tPart te) (tPart tf)) σ H (vS ((l.drop i).take (j - i))) := by
  subst ea eb
  have := ev_slS ha (eo_some h1) (eo_some h2) hz
  rw [sl_any hi] at this
  exact this
theorem atI_n {α : Type} {xs : List α} {i : Nat} {c : α} (h : xs[i]? = some c) : atI xs (i : Int) = some c := atI_nat h
end
end Sk

set_option Elab.async false
set_option linter.all false
set_option maxRecDepth 100000
set_option maxHeartbeats 1000000
namespace Sk
open PySem L2 Evl
theorem ev_cS {σ : L2.St} {H : Hp} {s : Str} {l : List Nat} (h : s = mkS l) : Ev (tC (.str s)) σ H (vS l) := by rw [h]; exact ev_c
/-! ### run_of -/
def pRunOf : V → V → V → Hp → VP → Prop := fun x y z H R => ∃ (cs l : List Nat) (i : Nat), x = vS cs ∧ y = vS l ∧ z = .int (i : Int) ∧ i ≤ l.length ∧ l.length ≤ 100000 ∧ R = fun v _ => v = vS ((l.drop i).takeWhile fun c => decide (c ∈ cs))
def sp_run_of (K : PySem.W.Frag) : Sp := spF3 pRunOf
def t_run_of (K : PySem.W.Frag) : TS := (tSeq (tAsg (tVar 2) (gName 3))
    (tSeq (tWhile (tAnd (tTest (tOp xLt (tVar 3) (tCB xLenS (tCons (tVar 1) tNil)))) (tTest (tOp rInS1 (tOp rIxS (tVar 1) (tVar 3)) (tVar 0)))) (tAug 3 (tC (.int 1)) (ipI fun i j => i + j)))
    (tRet (tSl rSlS (tVar 1) (tPart (tVar 2)) (tPart (tVar 3))))))
theorem takeWhile_at {P : Nat → Bool} {d : List Nat} {n : Nat} (h1 : ∀ c ∈ d.take n, P c = true) (h2 : ∀ c, d[n]? = some c → P c = false) : d.takeWhile P = d.take n := by
  have h3 : (d.take n ++ d.drop n).takeWhile P = d.take n := Tk.takeWhile_all h1 fun c hc => h2 c (by rw [List.head?_drop] at hc; exact hc)
  rw [List.take_append_drop] at h3
  exact h3
theorem getS {l : List Nat} {j : Nat} (h : j < l.length) : l[j]? = some (l.getD j 0) := by
  rw [List.getD_eq_getElem?_getD, List.getElem?_eq_getElem h]; rfl
theorem pure_run_of {K : PySem.W.Frag} {vs : List V} {H : Hp} {Q : VK} {E : XK} (h : sp_run_of K vs H Q E) : t_run_of K { nx := fun _ H' => Q .non H', rt := Q } (start ["characters", "text", "at", "end"] vs) H := by
  obtain ⟨x, y, z, R, rfl, ⟨cs, l, i, rfl, rfl, rfl, hi, hl, rfl⟩, k⟩ := h
  refine q_asg (ev_var rfl) fun H1 e1 => ?_
  refine q_while' (fun m σ H' => ∃ j : Nat, σ = [some (vS cs), some (vS l), some (.int (i : Int)), some (.int (j : Int))] ∧ Ex H H' ∧ i ≤ j ∧ j ≤ l.length ∧ m = l.length - j ∧ ∀ c ∈ (l.drop i).take (j - i), decide (c ∈ cs) = true) (l.length - i)
    ⟨i, rfl, e1, Nat.le_refl _, hi, rfl, fun c hc => by rw [Nat.sub_self] at hc; cases hc⟩ ?_
  rintro m σ' H' ⟨j, rfl, e2, h1, h2, rfl, h3⟩
  refine ⟨decide ((j : Int) < (l.length : Int)) && decide (l.getD j 0 ∈ cs), et_and (et_test (ev_lt (ev_var rfl) (ev_lenS (ev_var rfl) hl))) (fun hb => et_test (ev_inS (ev_atS (ev_var rfl) (ev_var rfl) hl (atI_n (getS (by have := of_decide_eq_true hb; omega)))) (ev_var rfl))), fun hb H3 e3 => ?_, fun hb H3 e3 => ?_⟩
  · rw [Bool.and_eq_true, decide_eq_true_eq] at hb
    have hj : j < l.length := by omega
    refine s_aug rfl ev_c fun H4 e4 => ⟨l.length - (j + 1), by omega, j + 1, rfl, e2.trans (e3.trans e4), by omega, hj, rfl, fun c hc => ?_⟩
    rw [show j + 1 - i = (j - i) + 1 by omega, List.take_add] at hc
    rcases List.mem_append.mp hc with q | q
    · exact h3 c q
    · rw [List.drop_drop, show i + (j - i) = j by omega] at q
      have : (l.drop j).take 1 = [l.getD j 0] := by
        rw [List.drop_eq_getElem_cons hj, List.getD_eq_getElem?_getD, List.getElem?_eq_getElem hj]; rfl
      rw [this, List.mem_singleton] at q
      rw [q]; exact hb.2
  · refine s_ret (ev_is (ev_slS (ev_var rfl) (eo_some (ev_var rfl)) (eo_some (ev_var rfl)) hl) (by rw [sl_nat hi h2])) fun H4 e4 => k _ _ (e2.trans (e3.trans e4)) ?_
    show vS _ = vS _
    rw [takeWhile_at (n := j - i) h3]
    intro c hc
    rw [List.getElem?_drop, show i + (j - i) = j by omega] at hc
    rw [Bool.and_eq_false_iff] at hb
    have hj : j < l.length := (List.getElem?_eq_some_iff.mp hc).1
    rcases hb with q | q
    · exact absurd (of_decide_eq_false q) (by omega)
    · rw [getS hj] at hc
      cases hc
      exact q
/-! ### token_at -/
def marksD : PyData := .tuple (Tk.marks.map fun m => .str (mkS m))
def MarksAt (K : PySem.W.Frag) (a : Addr) : Prop := ∀ H, Dp K H (.ref a) marksD
theorem marks_mk {K : PySem.W.Frag} {n : Nat} {a : Addr} (h : kdat K n (.ref a) = some marksD) : MarksAt K a := kdat_ref h
theorem dpS {K : PySem.W.Frag} {H : Hp} : ∀ {ls : List (List Nat)} {xs : List V}, DpAll K H xs (ls.map fun m => .str (mkS m)) → xs = ls.map vS
  | [], xs, h => by cases h; rfl
  | m :: ls, xs, h => by
    cases h with
    | cons h1 h2 =>
      cases h1
      rw [dpS h2]; rfl
theorem marks_sq {K : PySem.W.Frag} {a : Addr} (h : MarksAt K a) (H : Hp) : SqT K H a (Tk.marks.map vS) := by
  have := h H
  unfold marksD at this
  cases this with
  | tup h1 h2 => rw [← dpS h2]; exact h1
def pTokenAt (CB : Addr) : V → V → Hp → VP → WP → Prop := fun x y H R W => ∃ (l : List Nat) (i : Nat), x = vS l ∧ y = .int (i : Int) ∧ i < l.length ∧ l.length ≤ 1000 ∧ (∀ t, Tk.tk (l.drop i) = some t → ∀ H', R (vS t) H') ∧ (Tk.tk (l.drop i) = none → W CB)
def sp_token_at (K : PySem.W.Frag) (CB : Addr) : Sp := spX2 K (pTokenAt CB)
def t_token_at (K : PySem.W.Frag) (a_BadForm : Addr) (a_MARKS : Addr) (E : XK) : TS := (tSeq (tAsg (tCall (sp_run_of K) [] E0 (tCons (tC (.str "abcdefghijklmnopqrstuvwxyzABCDEFGHIJKLMNOPQRSTUVWXYZ")) (tCons (tVar 0) (tCons (tVar 1) tNil)))) (gName 2))
    (tSeq (tIfS (tTruK K (tVar 2)) (tRet (tVar 2)) tNext)
    (tSeq (tAsg (tCall (sp_run_of K) [] E0 (tCons (tC (.str "0123456789")) (tCons (tVar 0) (tCons (tVar 1) tNil)))) (gName 3))
    (tSeq (tIfS (tAnd (tTest (tOp rEq (tVar 3) (tC (.str "2")))) (tTest (tOp rEq (tSl rSlS (tVar 0) (tPart (tOp xAdd (tVar 1) (tC (.int 1)))) (tPart (tOp xAdd (tVar 1) (tC (.int 2))))) (tC (.str "^"))))) (tRet (tC (.str "2^"))) tNext)
    (tSeq (tIfS (tTruK K (tVar 3)) (tRet (tVar 3)) tNext)
    (tSeq (tFor (iTup K (tC (.ref a_MARKS))) (gName 4) (tIfS (tTest (tOp rEq (tSl rSlS (tVar 0) (tPart (tVar 1)) (tPart (tOp xAdd (tVar 1) (tCB xLenS (tCons (tVar 4) tNil))))) (tVar 4))) (tRet (tVar 4)) tNext))
    (tRaise K E a_BadForm)))))))
theorem er_run {K : PySem.W.Frag} {σ : L2.St} {H : Hp} {te : TE} {i j : Nat} {cs l : List Nat} {n : Nat} (h : Ev te σ H (vS cs)) (hi : σ[i]? = some (some (vS l))) (hj : σ[j]? = some (some (.int (n : Int)))) (hn : n ≤ l.length) (hl : l.length ≤ 100000) : Ev (tCall (sp_run_of K) [] E0 (tCons te (tCons (tVar i) (tCons (tVar j) tNil)))) σ H (vS ((l.drop n).takeWhile fun c => decide (c ∈ cs))) :=
  ev_er (er_call3 (R1 := fun v _ => v = vS cs) (R2 := fun v _ => v = vS l) (R3 := fun v _ => v = .int (n : Int)) (er_is h) monoC (er_is (ev_var hi)) monoC (er_is (ev_var hj)) monoC fun v w u H1 e1 g1 g2 g3 => ⟨cs, l, n, g1, g2, g3, hn, hl, rfl⟩)
theorem pure_token_at {K : PySem.W.Frag} {CB aM : Addr} (hM : MarksAt K aM) {vs : List V} {H : Hp} {Q : VK} {E : XK} (h : sp_token_at K CB vs H Q E) : t_token_at K CB aM E { nx := fun _ H' => Q .non H', rt := Q } (start ["text", "at", "word", "digits", "mark"] vs) H := by
  obtain ⟨x, y, R, W, rfl, ⟨l, i, rfl, rfl, hi, hl, hR, hW⟩, k, kE⟩ := h
  have hz : l.length ≤ 100000 := by omega
  have hlw : ∀ (P : Nat → Bool), ((l.drop i).takeWhile P).length ≤ 100000 := fun P => by
    have h1 := (List.takeWhile_sublist P (l := l.drop i)).length_le
    rw [List.length_drop] at h1
    omega
  refine q_asg (er_run (cs := Tk.letters) (ev_cS (by decide +kernel)) rfl rfl (Nat.le_of_lt hi) hz) fun H1 e1 => ?_
  refine q_when (et_truS (ev_var rfl) (hlw _)) (fun hb H2 e2 => ?_) (fun hb H2 e2 => ?_)
  · refine s_ret (ev_var rfl) fun H3 e3 => k _ _ (e1.trans (e2.trans e3)) (hR _ ?_ H3)
    unfold Tk.tk
    rw [if_pos]
    · rfl
    · intro q
      have q' : (l.drop i).takeWhile (fun c => decide (c ∈ Tk.letters)) = [] := q
      rw [q'] at hb; cases hb
  have hL : (l.drop i).takeWhile Tk.isL = [] := by
    cases hq : (l.drop i).takeWhile (fun c => decide (c ∈ Tk.letters)) with
    | nil => exact hq
    | cons c r => rw [hq] at hb; cases hb
  have hD : ((l.drop i).takeWhile fun c => decide (c ∈ Tk.digits)) = (l.drop i).takeWhile Tk.isD := rfl
  refine q_asg (er_run (cs := Tk.digits) (ev_cS (by decide +kernel)) rfl rfl (Nat.le_of_lt hi) hz) fun H3 e3 => ?_
  rw [hD]
  have esl : ∀ {σ : L2.St} {H' : Hp}, σ[0]? = some (some (vS l)) → σ[1]? = some (some (.int (i : Int))) → Ev (tSl rSlS (tVar 0) (tPart (tOp xAdd (tVar 1) (tC (.int 1)))) (tPart (tOp xAdd (tVar 1) (tC (.int 2))))) σ H' (vS (((l.drop i).drop 1).take 1)) := fun h0 h1 =>
    ev_is (ev_cut (i := i + 1) (j := i + 2) (ev_var h0) (ev_add (ev_var h1) ev_c) (by omega) (ev_add (ev_var h1) ev_c) (by omega) (by omega) hz) (by rw [List.drop_drop, show i + 2 - (i + 1) = 1 by omega])
  refine q_when (et_and (et_test (ev_eqS (ev_var rfl) (ev_cS (l := [50]) (by rfl)))) (fun _ => et_test (ev_eqS (esl rfl rfl) (ev_cS (l := [94]) (by rfl))))) (fun hb2 H4 e4 => ?_) (fun hb2 H4 e4 => ?_)
  · rw [Bool.and_eq_true, decide_eq_true_eq, decide_eq_true_eq] at hb2
    refine s_ret (ev_cS (l := [50, 94]) (by rfl)) fun H5 e5 => k _ _ (e1.trans (e2.trans (e3.trans (e4.trans e5)))) (hR _ ?_ H5)
    unfold Tk.tk
    rw [if_neg (by rw [hL]; exact fun h => h rfl), if_pos hb2]
  have hb2' : ¬ ((l.drop i).takeWhile Tk.isD = [50] ∧ ((l.drop i).drop 1).take 1 = [94]) := fun q => by
    rw [decide_eq_true q.1, decide_eq_true q.2] at hb2; cases hb2
  refine q_when (et_truS (ev_var rfl) (hlw _)) (fun hb3 H5 e5 => ?_) (fun hb3 H5 e5 => ?_)
  · refine s_ret (ev_var rfl) fun H6 e6 => k _ _ (e1.trans (e2.trans (e3.trans (e4.trans (e5.trans e6))))) (hR _ ?_ H6)
    unfold Tk.tk
    rw [if_neg (by rw [hL]; exact fun h => h rfl), if_neg hb2', if_pos]
    intro q
    rw [q] at hb3; cases hb3
  have hD0 : (l.drop i).takeWhile Tk.isD = [] := by
    cases hq : (l.drop i).takeWhile Tk.isD with
    | nil => rfl
    | cons c r => rw [hq] at hb3; cases hb3
  have htk : Tk.tk (l.drop i) = Tk.markAt (l.drop i) := by
    unfold Tk.tk
    rw [if_neg (by rw [hL]; exact fun h => h rfl), if_neg hb2', if_neg (by rw [hD0]; exact fun h => h rfl)]
  have e15 : Ex H H5 := e1.trans (e2.trans (e3.trans (e4.trans e5)))
  refine q_forT (xs := Tk.marks.map vS) ev_c (marks_sq hM _) (fun n σ H' => ∃ (w d : V) (z : Option V), σ = [some (vS l), some (.int (i : Int)), some w, some d, z] ∧ Ex H H' ∧ ∀ m ∈ Tk.marks.take n, (!decide ((l.drop i).take m.length = m)) = true)
    (fun H6 e6 => ⟨_, _, _, rfl, e15.trans e6, fun m hm => by cases hm⟩) (fun _ _ _ _ _ => marks_sq hM _) ?_ ?_
  · rintro n x σ' H' hx ⟨w, d, z, rfl, e6, hn⟩
    rw [List.getElem?_map] at hx
    cases hq : Tk.marks[n]? with
    | none => rw [hq] at hx; cases hx
    | some m =>
      rw [hq] at hx
      cases hx
      have hmem := List.mem_of_getElem? hq
      have hml : m.length ≤ 100000 := by
        have : ∀ m ∈ Tk.marks, m.length ≤ 2 := by decide
        have := this m hmem
        omega
      have hdec : Tk.marks = Tk.marks.take n ++ m :: Tk.marks.drop (n + 1) := by
        have hlt := (List.getElem?_eq_some_iff.mp hq).1
        have h2 := (List.getElem?_eq_some_iff.mp hq).2
        rw [← h2, List.getElem_cons_drop, List.take_append_drop]
      refine s_when (b := decide ((l.drop i).take m.length = m)) (et_test (ev_eqS (ev_is (ev_cut (i := i) (j := i + m.length) (ev_var rfl) (ev_var rfl) rfl (ev_add (ev_var rfl) (ev_lenS (ev_var rfl) hml)) (by omega) (Nat.le_of_lt hi) hz) (by rw [Nat.add_sub_cancel_left])) (ev_var rfl))) (fun hb H7 e7 => ?_) (fun hb H7 e7 => ?_)
      · refine s_ret (ev_var rfl) fun H8 e8 => k _ _ (e6.trans (e7.trans e8)) (hR m ?_ H8)
        rw [htk]
        exact List.find?_eq_some_iff_append.mpr ⟨hb, _, _, hdec, hn⟩
      · refine ⟨_, _, _, rfl, e6.trans e7, fun m' hm' => ?_⟩
        rw [List.take_add_one, hq] at hm'
        rcases List.mem_append.mp hm' with q | q
        · exact hn m' q
        · have : m' = m := by simpa using q
          rw [this, hb]; rfl
  · rintro σ' H' ⟨w, d, z, rfl, e6, hn⟩
    refine fun Hz ez => kE CB Hz (e6.trans ez) (hW ?_)
    rw [htk]
    refine List.find?_eq_none.mpr fun m hm => ?_
    have := hn m (by rw [List.length_map, List.take_length]; exact hm)
    simpa using this
end Sk

set_option Elab.async false
set_option linter.all false
set_option maxRecDepth 100000
set_option maxHeartbeats 1000000
namespace Sk
open PySem L2 Evl
/-! ### tokens -/
/-- a list of texts -/
def StrsL (K : PySem.W.Frag) (ts : List (List Nat)) : VP := fun v H => ∃ p, v = .ref p ∧ SqL K H p (ts.map vS)
theorem strsL {K : PySem.W.Frag} (ts : List (List Nat)) : Mono (StrsL K ts) := fun v H H' e ⟨p, h1, h2⟩ => ⟨p, h1, ex_l e h2⟩
def pTokens (K : PySem.W.Frag) (CB : Addr) : V → Hp → VP → WP → Prop := fun x H R W => ∃ (l : List Nat), x = vS l ∧ l.length ≤ 100000 ∧ (1000 < l.length → W CB) ∧ (l.length ≤ 1000 → ∃ o, Tk.Toks l o ∧ (∀ ts, o = some ts → ∀ v H', StrsL K ts v H' → R v H') ∧ (o = none → W CB))
def sp_tokens (K : PySem.W.Frag) (CB : Addr) : Sp := spX1 K (pTokens K CB)
def t_tokens (K : PySem.W.Frag) (a_BadForm : Addr) (E : XK) : TS := (tSeq (tIfS (tTest (tOp xGt (tCB xLenS (tCons (tVar 0) tNil)) (tC (.int 1000)))) (tRaise K E a_BadForm) tNext)
    (tSeq (tAsg (tLst tNil) (gName 1))
    (tSeq (tAsg (tC (.int 0)) (gName 2))
    (tSeq (tWhile (tTest (tOp xLt (tVar 2) (tCB xLenS (tCons (tVar 0) tNil)))) (tIfS (tTest (tOp rEq (tOp rIxS (tVar 0) (tVar 2)) (tC (.str " ")))) (tAug 2 (tC (.int 1)) (ipI fun i j => i + j)) (tSeq (tAsg (tCall (sp_token_at K a_BadForm) [] E (tCons (tVar 0) (tCons (tVar 2) tNil))) (gName 3))
    (tSeq (tDrop (tBM K "list" rAppend (tVar 1) (tCons (tVar 3) tNil)))
    (tAug 2 (tCB xLenS (tCons (tVar 3) tNil)) (ipI fun i j => i + j))))))
    (tRet (tVar 1))))))
theorem pure_tokens {K : PySem.W.Frag} {CB : Addr} {vs : List V} {H : Hp} {Q : VK} {E : XK} (h : sp_tokens K CB vs H Q E) : t_tokens K CB E { nx := fun _ H' => Q .non H', rt := Q } (start ["text", "found", "at", "token"] vs) H := by
  obtain ⟨x, R, W, rfl, ⟨l, rfl, hz, hlong, hR⟩, k, kE⟩ := h
  refine q_when (et_test (ev_gt (ev_lenS (ev_var rfl) hz) ev_c)) (fun hb H1 e1 => ?_) (fun hb H1 e1 => ?_)
  · exact (fun Hz ez => kE CB Hz (e1.trans ez) (hlong (by have := of_decide_eq_true hb; omega)))
  have hl : l.length ≤ 1000 := by have := of_decide_eq_false hb; omega
  obtain ⟨o, ho, hRo, hWo⟩ := hR hl
  refine q_asgL (el_lst ea_nil (by decide)) fun p H2 hp e2 h2 => ?_
  refine q_asg ev_c fun H3 e3 => ?_
  have hp0 : H p = none := fresh_back e1 hp
  refine q_while' (fun m σ H' => ∃ (j : Nat) (z : Option V) (acc : List (List Nat)) (o' : Option (List (List Nat))), σ = [some (vS l), some (.ref p), some (.int (j : Int)), z] ∧ Ex H H' ∧ H' p = some (.lst (acc.map vS)) ∧ j ≤ l.length ∧ acc.length ≤ j ∧ m = l.length - j ∧ Tk.Toks (l.drop j) o' ∧ o = o'.map (acc ++ ·)) l.length
    ⟨0, none, [], o, rfl, e1.trans (e2.trans e3), e3 p _ h2, Nat.zero_le _, Nat.le_refl _, rfl, ho, by cases o <;> rfl⟩ ?_
  rintro m σ' H' ⟨j, z, acc, o', rfl, e4, h4, hj, hacc, rfl, hT, hoo⟩
  refine ⟨decide ((j : Int) < (l.length : Int)), et_test (ev_lt (ev_var rfl) (ev_lenS (ev_var rfl) hz)), fun hb2 H5 e5 => ?_, fun hb2 H5 e5 => ?_⟩
  · have hjl : j < l.length := by have := of_decide_eq_true hb2; omega
    have hd : l.drop j = l.getD j 0 :: l.drop (j + 1) := by
      rw [List.drop_eq_getElem_cons hjl, List.getD_eq_getElem?_getD, List.getElem?_eq_getElem hjl]; rfl
    have hat := atI_n (getS hjl)
    rw [hd] at hT
    generalize hc : l.getD j 0 = c at hT hat hd
    refine s_if (b := decide (([c] : List Nat) = [32])) (et_test (ev_eqS (ev_atS (ev_var rfl) (ev_var rfl) hz hat) (ev_cS (by rfl)))) (fun hb3 H6 e6 => ?_) (fun hb3 H6 e6 => ?_)
    · have hc32 : c = 32 := by have := of_decide_eq_true hb3; simpa using this
      have hT2 : Tk.Toks (l.drop (j + 1)) o' := by
        cases hT with
        | sp h => exact h
        | tok q _ _ => exact absurd hc32 q
        | bad q _ => exact absurd hc32 q
      refine s_aug rfl ev_c fun H7 e7 => ⟨l.length - (j + 1), by omega, j + 1, _, acc, o', rfl, e4.trans (e5.trans (e6.trans e7)), (e5.trans (e6.trans e7)) p _ h4, hjl, by omega, rfl, hT2, hoo⟩
    · have hc32 : c ≠ 32 := fun q => by rw [q] at hb3; exact absurd (of_decide_eq_false hb3) (fun h => h rfl)
      have tok : ∀ t, Tk.tk (l.drop j) = some t → ∀ H7, Ex H6 H7 → (tSeq (tDrop (tBM K "list" rAppend (tVar 1) (tCons (tVar 3) tNil))) (tAug 2 (tCB xLenS (tCons (tVar 3) tNil)) (ipI fun i j => i + j)))
          { nx := fun σ2 H2 => ∃ m', m' < l.length - j ∧ ∃ (j : Nat) (z : Option V) (acc : List (List Nat)) (o' : Option (List (List Nat))), σ2 = [some (vS l), some (.ref p), some (.int (j : Int)), z] ∧ Ex H H2 ∧ H2 p = some (.lst (acc.map vS)) ∧ j ≤ l.length ∧ acc.length ≤ j ∧ m' = l.length - j ∧ Tk.Toks (l.drop j) o' ∧ o = o'.map (acc ++ ·), ct := fun σ2 H2 => ∃ m', m' < l.length - j ∧ ∃ (j : Nat) (z : Option V) (acc : List (List Nat)) (o' : Option (List (List Nat))), σ2 = [some (vS l), some (.ref p), some (.int (j : Int)), z] ∧ Ex H H2 ∧ H2 p = some (.lst (acc.map vS)) ∧ j ≤ l.length ∧ acc.length ≤ j ∧ m' = l.length - j ∧ Tk.Toks (l.drop j) o' ∧ o = o'.map (acc ++ ·), bk := fun σ H => tRet (tVar 1) { nx := fun _ H' => Q .non H', rt := Q } σ H, rt := Q } [some (vS l), some (.ref p), some (.int (j : Int)), some (vS t)] H7 := by
        intro t ht H7 e7
        obtain ⟨k1, k2, k3⟩ := Tk.tk_ok ht
        have hpos : 0 < t.length := by
          cases t with
          | nil => exact absurd rfl k2
          | cons => exact Nat.succ_pos _
        have htl : j + t.length ≤ l.length := by
          have := congrArg List.length k1
          rw [List.length_take, List.length_drop] at this
          omega
        obtain ⟨o2, g1, g2⟩ : ∃ o2, Tk.Toks (l.drop (j + t.length)) o2 ∧ o' = o2.map (t :: ·) := by
          rw [hd] at ht
          cases hT with
          | sp h => exact absurd rfl hc32
          | tok q1 q2 q3 =>
            rw [ht] at q2
            cases q2
            rw [← hd, List.drop_drop] at q3
            exact ⟨_, q3, rfl⟩
          | bad q1 q2 => rw [ht] at q2; cases q2
        refine q_app ((e5.trans (e6.trans e7)) p _ h4) (ev_var rfl) (ev_var rfl) (by rw [List.length_map]; omega) fun H8 e8 => ?_
        refine s_aug rfl (ev_lenS (ev_var rfl) (by omega)) fun H9 e9 => ⟨l.length - (j + t.length), by omega, j + t.length, _, acc ++ [t], o2, rfl, (Ex.mut (e4.trans (e5.trans (e6.trans (e7.trans e8)))) hp0).trans e9, ?_, htl, by rw [List.length_append, List.length_singleton]; omega, rfl, g1, ?_⟩
        · rw [List.map_append]
          exact e9 p _ upd_same
        · rw [hoo, g2]
          cases o2 <;> simp
      refine x_call2 (R1 := fun v _ => v = vS l) (R2 := fun v _ => v = .int (j : Int)) (er_is (ev_var rfl)) monoC (er_is (ev_var rfl)) monoC _ fun v v' H7 e7 g1 g2 => ?_
      subst g1 g2
      cases ht : Tk.tk (l.drop j) with
      | some t => exact ⟨fun v _ => v = vS t, fun _ => False, ⟨l, j, rfl, rfl, hjl, hl, fun t' h' H' => by rw [ht] at h'; cases h'; rfl, fun h' => by rw [ht] at h'; cases h'⟩, fun w H8 e8 hw => by subst hw; exact tok t ht H8 (e7.trans e8), fun _ _ _ h => h.elim⟩
      | none =>
        refine ⟨fun _ _ => False, fun C => C = CB, ⟨l, j, rfl, rfl, hjl, hl, fun t' h' H' => (by rw [ht] at h'; cases h'), fun _ => rfl⟩, fun _ _ _ h => h.elim, fun C H8 e8 hC => ?_⟩
        subst hC
        refine kE C H8 (e4.trans (e5.trans (e6.trans (e7.trans e8)))) (hWo ?_)
        rw [hd] at ht
        cases hT with
        | sp h => exact absurd rfl hc32
        | tok q1 q2 q3 => rw [ht] at q2; cases q2
        | bad q1 q2 => rw [hoo]; rfl
  · have hjl : j = l.length := by have := of_decide_eq_false hb2; omega
    rw [hjl, List.drop_length] at hT
    cases hT
    refine s_ret (ev_var rfl) fun H6 e6 => k _ _ (e4.trans (e5.trans e6)) (hRo acc (by rw [hoo]; simp) _ _ ⟨p, rfl, sq_of ((e5.trans e6) p _ h4)⟩)
end Sk

set_option Elab.async false
set_option linter.all false
set_option maxRecDepth 100000
set_option maxHeartbeats 1000000
namespace Sk
open PySem L2 Evl
/-! ### the law's row of drawn numbers -/
def RowP : VP := fun v H => ∃ l : List Int, l.length ≤ 4000 ∧ (∀ x ∈ l, 0 ≤ x ∧ x < 1009) ∧ IntsL l v H
theorem rowP : Mono RowP := fun v H H' e ⟨l, h2, h3, h4⟩ => ⟨l, h2, h3, intsL l _ _ _ e h4⟩
def pLRow (K : PySem.W.Frag) : V → Hp → VP → Prop := fun x H R => ∃ (a : Addr) (ns : List Int), x = .ref a ∧ SqL K H a (ns.map V.int) ∧ ns.length ≤ 63 ∧ R = RowP
def sp_law_row (K : PySem.W.Frag) : Sp := spF1 (pLRow K)
def t_law_row (K : PySem.W.Frag) : TS := (tSeq (tAsg (tLst tNil) (gName 1))
    (tSeq (tFor (iRng1 (tCons (tCB (rLenS K) (tCons (tVar 0) tNil)) tNil)) (gName 2) (tSeq (tAsg (tCB xAbs (tCons (tCB xInt1 (tCons (tOp (rIxL K) (tVar 0) (tVar 2)) tNil)) tNil)) (gName 3))
    (tIfS (tTest (tOp xGe (tVar 3) (tOp xPow (tC (.int 10)) (tC (.int 18))))) (tFor (iRng1 (tCons (tC (.int 40)) tNil)) (gName 4) (tIfS (tTest (tOp xGt (tVar 3) (tC (.int 0)))) (tSeq (tDrop (tBM K "list" rAppend (tVar 1) (tCons (tOp xMod (tCB xInt1 (tCons (tVar 3) tNil)) (tC (.int 1009))) tNil)))
    (tAsg (tOp xFdiv (tVar 3) (tC (.int 1009))) (gName 3))) tNext)) (tSeq (tAsg (tOp xMod (tCB xInt1 (tCons (tOp xAdd (tOp xAdd (tOp xMul (tVar 3) (tC (.int 48271))) (tOp xMul (tVar 2) (tC (.int 69621)))) (tC (.int 12345))) tNil)) (tC (.int 2147483647))) (gName 5))
    (tFor (iRng1 (tCons (tC (.int 6)) tNil)) (gName 4) (tSeq (tAsg (tOp xMod (tCB xInt1 (tCons (tOp xAdd (tOp xAdd (tOp xMul (tVar 5) (tC (.int 16807))) (tOp xMul (tC (.int 11)) (tVar 4))) (tC (.int 1))) tNil)) (tC (.int 2147483647))) (gName 5))
    (tDrop (tBM K "list" rAppend (tVar 1) (tCons (tOp xMod (tCB xInt1 (tCons (tOp xFdiv (tVar 5) (tC (.int 7))) tNil)) (tC (.int 1009))) tNil)))))))))
    (tRet (tVar 1))))
theorem pure_law_row {K : PySem.W.Frag} {vs : List V} {H : Hp} {Q : VK} {E : XK} (h : sp_law_row K vs H Q E) : t_law_row K { nx := fun _ H' => Q .non H', rt := Q } (start ["script", "row", "k", "cell", "turn", "mixed"] vs) H := by
  obtain ⟨x, R, rfl, ⟨a, ns, rfl, hs, h63, rfl⟩, k⟩ := h
  refine q_asgL (el_lst ea_nil (by decide)) fun l H1 hl e1 h1 => ?_
  refine q_forR1 (n := (((ns.map V.int).length : Nat) : Int)) (ea_cons (ev_len (ev_var rfl) (ex_l e1 hs)) ea_nil) ⟨by omega, by rw [List.length_map]; omega⟩
    (fun i σ H' => ∃ (z2 z3 z4 z5 : Option V) (ms : List Int), σ = [some (.ref a), some (.ref l), z2, z3, z4, z5] ∧ Ex H H' ∧ H' l = some (.lst (ms.map V.int)) ∧ ms.length ≤ 40 * i ∧ ∀ w ∈ ms, 0 ≤ w ∧ w < 1009)
    (fun H2 e2 => ⟨none, none, none, none, [], rfl, e1.trans e2, e2 l _ h1, by decide, fun w hw => by cases hw⟩) ?_ ?_
  · rintro i σ H' hi ⟨z2, z3, z4, z5, ms, rfl, e2, h2, h3, h4⟩
    rw [List.length_map] at hi
    have hi' : i < ns.length := by omega
    refine q_asg (ev_abs (ev_int1 (ev_ints (ev_var rfl) (ev_var rfl) rfl (ex_l e2 hs) hi'))) fun H3 e3 => ?_
    have hn0 : 0 ≤ (if ns.getD i 0 < 0 then -ns.getD i 0 else ns.getD i 0) := by split <;> omega
    generalize (if ns.getD i 0 < 0 then -ns.getD i 0 else ns.getD i 0) = n at hn0 ⊢
    refine s_if (et_test (ev_ge (ev_var rfl) (ev_pow ev_c ev_c ⟨by decide, by decide, by decide⟩))) (fun _ H4 e4 => ?_) (fun _ H4 e4 => ?_)
    · refine s_forR1 (ea_cons ev_c ea_nil) ⟨by decide, by decide⟩ (fun j σ H5 => ∃ (m : Int) (z4 : Option V) (ms' : List Int), σ = [some (.ref a), some (.ref l), some (.int (i : Int)), some (.int m), z4, z5] ∧ Ex H H5 ∧ H5 l = some (.lst (ms'.map V.int)) ∧ ms'.length ≤ ms.length + j ∧ ∀ w ∈ ms', 0 ≤ w ∧ w < 1009)
        (fun H5 e5 => ⟨n, z4, ms, rfl, ((e2.trans e3).trans e4).trans e5, (e3.trans (e4.trans e5)) l _ h2, by omega, h4⟩) ?_ ?_
      · rintro j σ H5 hj ⟨m, z4, ms', rfl, e5, h5, h6, h7⟩
        refine s_when (et_test (ev_gt (ev_var rfl) ev_c)) (fun _ H6 e6 => ?_) (fun _ H6 e6 => ?_)
        · refine q_app (e6 l _ h5) (ev_var rfl) (ev_mod (ev_int1 (ev_var rfl)) ev_c (by decide)) (by rw [List.length_map]; omega) fun H7 e7 => ?_
          refine s_asg (ev_fdiv (ev_var rfl) ev_c ⟨by decide, by decide⟩) fun H8 e8 => ⟨_, _, ms' ++ [m % 1009], rfl, (Ex.mut (e5.trans (e6.trans e7)) hl).trans e8, ?_, by rw [List.length_append, List.length_singleton]; omega, snocP h7 (by omega)⟩
          rw [List.map_append]
          exact e8 l _ upd_same
        · exact ⟨m, _, ms', rfl, e5.trans e6, e6 l _ h5, by omega, h7⟩
      · rintro σ H5 ⟨m, z4, ms', rfl, e5, h5, h6, h7⟩
        exact ⟨_, _, _, _, ms', rfl, e5, h5, by have : (40 : Int).toNat = 40 := rfl; omega, h7⟩
    · refine q_asg (ev_mod (ev_int1 (ev_add (ev_add (ev_mul (ev_var rfl) ev_c (.inr (by decide))) (ev_mul (ev_var rfl) ev_c (.inr (by decide)))) ev_c)) ev_c (by decide)) fun H5 e5 => ?_
      refine s_forR1 (ea_cons ev_c ea_nil) ⟨by decide, by decide⟩ (fun j σ H5 => ∃ (m : Int) (z4 : Option V) (ms' : List Int), σ = [some (.ref a), some (.ref l), some (.int (i : Int)), some (.int n), z4, some (.int m)] ∧ Ex H H5 ∧ H5 l = some (.lst (ms'.map V.int)) ∧ ms'.length ≤ ms.length + j ∧ ∀ w ∈ ms', 0 ≤ w ∧ w < 1009)
        (fun H6 e6 => ⟨_, z4, ms, rfl, ((e2.trans e3).trans e4).trans (e5.trans e6), (e3.trans (e4.trans (e5.trans e6))) l _ h2, by omega, h4⟩) ?_ ?_
      · rintro j σ H6 hj ⟨m, z4, ms', rfl, e6, h6, h7, h8⟩
        refine q_asg (ev_mod (ev_int1 (ev_add (ev_add (ev_mul (ev_var rfl) ev_c (.inr (by decide))) (ev_mul ev_c (ev_var rfl) (.inl (by decide)))) ev_c)) ev_c (by decide)) fun H7 e7 => ?_
        refine s_app (e7 l _ h6) (ev_var rfl) (ev_mod (ev_int1 (ev_fdiv (ev_var rfl) ev_c ⟨by decide, by decide⟩)) ev_c (by decide)) (by rw [List.length_map]; omega) fun H8 e8 => ?_
        exact ⟨_, _, ms' ++ [_], rfl, Ex.mut ((e6.trans e7).trans e8) hl, by rw [List.map_append]; exact upd_same, by rw [List.length_append, List.length_singleton]; omega, snocP h8 (by omega)⟩
      · rintro σ H6 ⟨m, z4, ms', rfl, e6, h6, h7, h8⟩
        exact ⟨_, _, _, _, ms', rfl, e6, h6, by have : (6 : Int).toNat = 6 := rfl; omega, h8⟩
  · rintro σ H' ⟨z2, z3, z4, z5, ms, rfl, e2, h2, h3, h4⟩
    refine s_ret (ev_var rfl) fun H4 e4 => k _ _ (e2.trans e4) ⟨ms, ?_, h4, l, rfl, e4 l _ h2⟩
    rw [List.length_map, Int.toNat_natCast] at h3
    omega
def atF (l : List Int) (k : Int) : Nat := if 0 ≤ k ∧ k < (l.length : Int) then (l.getD k.toNat 0).toNat else 0
def pLAt : V → V → Hp → VP → Prop := fun x y H R => ∃ (l : List Int) (k : Int), l.length ≤ 4000 ∧ (∀ x ∈ l, 0 ≤ x ∧ x < 1009) ∧ IntsL l x H ∧ y = .int k ∧ R = fun v _ => v = .int (atF l k : Int)
theorem atF_lt {l : List Int} (h : ∀ x ∈ l, 0 ≤ x ∧ x < 1009) (k : Int) : atF l k < 1009 := by
  unfold atF
  split
  · rename_i q
    have := h _ (getD_mem (l := l) (i := k.toNat) (by omega))
    omega
  · omega
def sp_law_at (K : PySem.W.Frag) : Sp := spF2 pLAt
def t_law_at (K : PySem.W.Frag) : TS := (tSeq (tIfS (tTest (tChain xLe xLt (tC (.int 0)) (tVar 1) (tCB (rLenS K) (tCons (tVar 0) tNil)))) (tRet (tOp (rIxL K) (tVar 0) (tVar 1))) tNext)
    (tRet (tC (.int 0))))
theorem pure_law_at {K : PySem.W.Frag} {vs : List V} {H : Hp} {Q : VK} {E : XK} (h : sp_law_at K vs H Q E) : t_law_at K { nx := fun _ H' => Q .non H', rt := Q } (start ["row", "at"] vs) H := by
  obtain ⟨x, y, R, rfl, ⟨l, kk, hl, hb, ⟨p, rfl, hp⟩, rfl, rfl⟩, k⟩ := h
  refine q_when (et_chainI (K := K) ev_c (ev_var rfl) (ev_len (ev_var rfl) (sq_of hp))) (fun hc H1 e1 => ?_) (fun hc H1 e1 => ?_)
  · rw [Bool.and_eq_true, decide_eq_true_eq, decide_eq_true_eq, List.length_map] at hc
    have hlt : kk.toNat < l.length := by omega
    have := hb _ (getD_mem hlt)
    refine s_ret (ev_ints (i := kk.toNat) (ev_var rfl) (ev_var rfl) (by omega) (sq_of (e1 p _ hp)) hlt) fun H2 e2 => k _ _ (e1.trans e2) (congrArg V.int (by unfold atF; rw [if_pos ⟨hc.1, hc.2⟩]; omega))
  · exact s_ret ev_c fun H2 e2 => k _ _ (e1.trans e2) (congrArg V.int (by
      unfold atF
      rw [if_neg]; rfl
      intro q
      rw [List.length_map, decide_eq_true q.1, decide_eq_true q.2] at hc
      cases hc))
/-! ### refused -/
def pLRefused : V → Hp → VP → Prop := fun x H R => ∃ l : List Nat, x = vS l ∧ l.length ≤ 100000 ∧ (l.length ≤ 1000 → Tk.Toks l none) ∧ R = fun v _ => v = .bl true
def sp_law_refused (K : PySem.W.Frag) : Sp := spF1 pLRefused
def t_law_refused (K : PySem.W.Frag) (a_BadForm : Addr) (a_NotAllowed : Addr) (a_ReckonError : Addr) : TS := (tSeq (fun D σ H => (fun W => (tDrop (tCallS (sp_tokens K a_BadForm) (WE W) (tCons (tVar 0) tNil)))) (wAs K (.ref a_BadForm) 1 (fun a cls d => (tRet (tAndV (tCB (rIsEc K a_BadForm a cls d) (tCons (tVar 1) (tCons (tC (.ref a_ReckonError)) tNil))) (tNotV (tCB (rIsEc K a_BadForm a cls d) (tCons (tVar 1) (tCons (tC (.ref a_NotAllowed)) tNil))))))) (fun _ _ _ _ => False) D) D σ H)
    (tRet (tC (.bl false))))
theorem pure_law_refused {K : PySem.W.Frag} {a_BadForm a_NotAllowed a_ReckonError : Addr} (hex : PySem.W.exmOne K (.ref a_BadForm) (.ref a_BadForm) = some true) (hR : PySem.W.kitOne K (.ref a_BadForm) (.ref a_ReckonError) = some true) (hA : PySem.W.kitOne K (.ref a_BadForm) (.ref a_NotAllowed) = some false)
    {vs : List V} {H : Hp} {Q : VK} {E : XK} (h : sp_law_refused K vs H Q E) : t_law_refused K a_BadForm a_NotAllowed a_ReckonError { nx := fun _ H' => Q .non H', rt := Q } (start ["text", "why"] vs) H := by
  obtain ⟨x, R, rfl, ⟨l, rfl, hz, hT, rfl⟩, k⟩ := h
  refine xs_call1 (R1 := fun v _ => v = vS l) (er_is (ev_var rfl)) monoC _ fun v H1 e1 g1 => ⟨fun _ _ => False, fun C => C = a_BadForm, ⟨l, g1, hz, fun _ => rfl, fun h1 => ⟨none, hT h1, fun ts h => (by cases h), fun _ => rfl⟩⟩, fun _ _ _ h => h.elim, fun C H2 e2 hC => ?_⟩
  subst hC
  refine fun d hd => ⟨true, hex, fun _ a ha => ?_, fun h => by cases h⟩
  refine s_ret (v := .bl (true && !false)) (ev_andV (a := true) ?_ fun _ => ev_notV ?_) fun H3 e3 => k _ _ (e1.trans (e2.trans e3)) rfl
  · exact ev_cb (ea_cons (ev_var rfl) (ea_cons ev_c ea_nil)) fun H1 e1 Q q => ⟨(hd.ex e1).cau, .ref a_ReckonError, .ref a_ReckonError, true, rfl, fun u r => r, hR, q H1 (Ex.refl _)⟩
  · exact ev_cb (ea_cons (ev_var rfl) (ea_cons ev_c ea_nil)) fun H1 e1 Q q => ⟨(hd.ex e1).cau, .ref a_NotAllowed, .ref a_NotAllowed, false, rfl, fun u r => r, hA, q H1 (Ex.refl _)⟩
end Sk

set_option Elab.async false
set_option linter.all false
set_option maxRecDepth 100000
set_option maxHeartbeats 1000000
namespace Sk
open PySem L2 Evl
/-! ### the law's tokens -/
def TokS : VP := fun v _ => ∃ t, v = vS t ∧ Tk.good t ∧ t.length ≤ 20
def pLToken : V → Hp → VP → Prop := fun x H R => ∃ j : Nat, x = .int (j : Int) ∧ j < 1009 ∧ R = TokS
def sp_law_token (K : PySem.W.Frag) : Sp := spF1 pLToken
def t_law_token (K : PySem.W.Frag) : TS := (tSeq (tAsg (tLst (tCons (tC (.str "+")) (tCons (tC (.str "-")) (tCons (tC (.str "*")) (tCons (tC (.str "<<")) (tCons (tC (.str ">>")) (tCons (tC (.str "(")) (tCons (tC (.str ")")) (tCons (tC (.str ",")) (tCons (tC (.str "=")) (tCons (tC (.str ";")) (tCons (tC (.str "{")) (tCons (tC (.str "}")) (tCons (tC (.str "<")) (tCons (tC (.str "<=")) (tCons (tC (.str "==")) (tCons (tC (.str "!=")) (tCons (tC (.str "2^")) tNil)))))))))))))))))) (gName 1))
    (tSeq (tIfS (tTest (tOp rEq (tOp xMod (tCB xInt1 (tCons (tVar 0) tNil)) (tC (.int 3))) (tC (.int 0)))) (tRet (tOp (rIxL K) (tVar 1) (tOp xMod (tOp xFdiv (tCB xInt1 (tCons (tVar 0) tNil)) (tC (.int 3))) (tC (.int 17))))) tNext)
    (tSeq (tAsg (tOp (rIxL K) (tLst (tCons (tC (.str "abcdefghijklmnopqrstuvwxyzABCXYZ")) (tCons (tC (.str "0123456789")) tNil))) (tOp xMod (tCB xInt1 (tCons (tVar 0) tNil)) (tC (.int 2)))) (gName 2))
    (tSeq (tAsg (tC (.str "")) (gName 3))
    (tSeq (tFor (iRng1 (tCons (tOp xAdd (tC (.int 1)) (tOp xMod (tOp xFdiv (tCB xInt1 (tCons (tVar 0) tNil)) (tC (.int 3))) (tOp (rIxL K) (tLst (tCons (tC (.int 5)) (tCons (tC (.int 20)) tNil))) (tOp xMod (tCB xInt1 (tCons (tVar 0) tNil)) (tC (.int 2)))))) tNil)) (gName 4) (tAsg (tOp xAddS (tVar 3) (tOp rIxS (tVar 2) (tOp xMod (tCB xInt1 (tCons (tOp xAdd (tOp xAdd (tOp xMul (tVar 0) (tC (.int 7))) (tOp xMul (tVar 4) (tVar 4))) (tOp xMul (tC (.int 3)) (tVar 4))) tNil)) (tCB xLenS (tCons (tVar 2) tNil))))) (gName 3)))
    (tRet (tVar 3)))))))
def gmarks : List (List Nat) := [[43], [45], [42], [60, 60], [62, 62], [40], [41], [44], [61], [59], [123], [125], [60], [60, 61], [61, 61], [33, 61], [50, 94]]
def lsigns : List Nat := [97, 98, 99, 100, 101, 102, 103, 104, 105, 106, 107, 108, 109, 110, 111, 112, 113, 114, 115, 116, 117, 118, 119, 120, 121, 122, 65, 66, 67, 88, 89, 90]
theorem pure_law_token {K : PySem.W.Frag} {vs : List V} {H : Hp} {Q : VK} {E : XK} (h : sp_law_token K vs H Q E) : t_law_token K { nx := fun _ H' => Q .non H', rt := Q } (start ["number", "marks", "signs", "token", "k"] vs) H := by
  obtain ⟨x, R, rfl, ⟨j, rfl, hj, rfl⟩, k⟩ := h
  refine q_asgL (xs := gmarks.map vS) (el_lst (ea_cons (ev_cS (by rfl)) (ea_cons (ev_cS (by rfl)) (ea_cons (ev_cS (by rfl)) (ea_cons (ev_cS (by rfl)) (ea_cons (ev_cS (by rfl)) (ea_cons (ev_cS (by rfl)) (ea_cons (ev_cS (by rfl)) (ea_cons (ev_cS (by rfl)) (ea_cons (ev_cS (by rfl)) (ea_cons (ev_cS (by rfl)) (ea_cons (ev_cS (by rfl)) (ea_cons (ev_cS (by rfl)) (ea_cons (ev_cS (by rfl)) (ea_cons (ev_cS (by rfl)) (ea_cons (ev_cS (by rfl)) (ea_cons (ev_cS (by rfl)) (ea_cons (ev_cS (by rfl)) ea_nil))))))))))))))))) (by decide)) fun p H1 hp e1 h1 => ?_
  refine q_when (et_test (ev_eq (ev_mod (ev_int1 (ev_var rfl)) ev_c (by decide)) ev_c rfl)) (fun _ H2 e2 => ?_) (fun _ H2 e2 => ?_)
  · have hlt : j / 3 % 17 < gmarks.length := Nat.mod_lt _ (by decide)
    have hat : (gmarks.map vS)[j / 3 % 17]? = some (vS gmarks[j / 3 % 17]) := by rw [List.getElem?_map, List.getElem?_eq_getElem hlt]; rfl
    have hme : gmarks[j / 3 % 17] ∈ gmarks := List.getElem_mem hlt
    refine s_ret (ev_at (ev_var rfl) (ev_is (ev_mod (ev_fdiv (ev_int1 (ev_var rfl)) ev_c ⟨by decide, by decide⟩) ev_c (by decide)) (by rfl : V.int ((j : Int) / 3 % 17) = V.int ((j / 3 % 17 : Nat) : Int))) (sq_of (e2 p _ h1)) (atI_nat hat)) fun H3 e3 => k _ _ (e1.trans (e2.trans e3)) ⟨_, rfl, .inl hme, ?_⟩
    have : ∀ m ∈ gmarks, m.length ≤ 20 := by decide
    exact this _ hme
  have main : ∀ (sg : List Nat) (P : Nat → Bool) (c : Nat), sg ≠ [] → sg.length ≤ 60 → (∀ c ∈ sg, P c = true) → (∀ t : List Nat, t ≠ [] → (∀ c ∈ t, P c = true) → Tk.good t) → 1 ≤ c → c ≤ 20 → ∀ H3, Ex H2 H3 →
      (∀ {σ : L2.St} {H' : Hp}, σ[0]? = some (some (.int (j : Int))) → Ev (tOp xAdd (tC (.int 1)) (tOp xMod (tOp xFdiv (tCB xInt1 (tCons (tVar 0) tNil)) (tC (.int 3))) (tOp (rIxL K) (tLst (tCons (tC (.int 5)) (tCons (tC (.int 20)) tNil))) (tOp xMod (tCB xInt1 (tCons (tVar 0) tNil)) (tC (.int 2)))))) σ H' (.int (c : Int))) →
      (tSeq (tAsg (tC (.str "")) (gName 3))
    (tSeq (tFor (iRng1 (tCons (tOp xAdd (tC (.int 1)) (tOp xMod (tOp xFdiv (tCB xInt1 (tCons (tVar 0) tNil)) (tC (.int 3))) (tOp (rIxL K) (tLst (tCons (tC (.int 5)) (tCons (tC (.int 20)) tNil))) (tOp xMod (tCB xInt1 (tCons (tVar 0) tNil)) (tC (.int 2)))))) tNil)) (gName 4) (tAsg (tOp xAddS (tVar 3) (tOp rIxS (tVar 2) (tOp xMod (tCB xInt1 (tCons (tOp xAdd (tOp xAdd (tOp xMul (tVar 0) (tC (.int 7))) (tOp xMul (tVar 4) (tVar 4))) (tOp xMul (tC (.int 3)) (tVar 4))) tNil)) (tCB xLenS (tCons (tVar 2) tNil))))) (gName 3)))
    (tRet (tVar 3)))) { nx := fun _ H' => Q .non H', rt := Q } [some (.int (j : Int)), some (.ref p), some (vS sg), none, none] H3 := by
    intro sg P c h0 hsz hP hgood hc1 hc2 H3 e3 hcount
    refine q_asg (ev_cS (l := []) (by rfl)) fun H4 e4 => ?_
    refine q_forR1 (ea_cons (hcount rfl) ea_nil) ⟨by omega, by omega⟩ (fun i σ H' => ∃ (t : List Nat) (z : Option V), σ = [some (.int (j : Int)), some (.ref p), some (vS sg), some (vS t), z] ∧ Ex H H' ∧ t.length = i ∧ ∀ c ∈ t, P c = true)
      (fun H5 e5 => ⟨[], none, rfl, e1.trans (e2.trans (e3.trans (e4.trans e5))), rfl, fun c h => by cases h⟩) ?_ ?_
    · rintro i σ H' hi ⟨t, z, rfl, e5, ht, hall⟩
      have hpos : 0 < sg.length := by
        cases sg with
        | nil => exact absurd rfl h0
        | cons => exact Nat.succ_pos _
      obtain ⟨q, hq1, hq2⟩ := modN ((j : Int) * 7 + (i : Int) * (i : Int) + 3 * (i : Int)) hpos
      refine s_asg (v := vS (t ++ [sg.getD q 0])) (ev_addS (ev_var rfl) (ev_atS (ev_var rfl) (ev_is (ev_mod (ev_int1 (ev_add (ev_add (ev_mul (ev_var rfl) ev_c (.inr (by decide))) (ev_mul (ev_var rfl) (ev_var rfl) (.inl (by constructor <;> omega)))) (ev_mul ev_c (ev_var rfl) (.inl (by decide))))) (ev_lenS (ev_var rfl) (by omega)) (by omega)) (congrArg V.int hq2)) (by omega) (atI_n (getS hq1))) (by rw [ht]; simp; omega)) fun H6 e6 => ⟨t ++ [sg.getD q 0], _, rfl, e5.trans e6, by rw [List.length_append, ht]; rfl, fun c hc => ?_⟩
      rcases List.mem_append.mp hc with h | h
      · exact hall c h
      · rw [List.mem_singleton] at h
        rw [h, List.getD_eq_getElem?_getD, List.getElem?_eq_getElem hq1]
        exact hP _ (List.getElem_mem hq1)
    · rintro σ H' ⟨t, z, rfl, e5, ht, hall⟩
      rw [Int.toNat_natCast] at ht
      refine s_ret (ev_var rfl) fun H6 e6 => k _ _ (e5.trans e6) ⟨t, rfl, hgood t (fun q => by rw [q] at ht; simp at ht; omega) hall, by omega⟩
  have hEA : ∀ {σ : L2.St} {H' : Hp}, EvA (tCons (tC (.int 5)) (tCons (tC (.int 20)) tNil)) σ H' [.int 5, .int 20] := ea_cons ev_c (ea_cons ev_c ea_nil)
  have hEB : ∀ {σ : L2.St} {H' : Hp}, EvA (tCons (tC (.str "abcdefghijklmnopqrstuvwxyzABCXYZ")) (tCons (tC (.str "0123456789")) tNil)) σ H' [vS lsigns, vS Tk.digits] := ea_cons (ev_cS (by decide +kernel)) (ea_cons (ev_cS (by decide +kernel)) ea_nil)
  have hm : ∀ {σ : L2.St} {H' : Hp}, σ[0]? = some (some (.int (j : Int))) → Ev (tOp xMod (tCB xInt1 (tCons (tVar 0) tNil)) (tC (.int 2))) σ H' (.int ((j % 2 : Nat) : Int)) := fun h0 => ev_mod (ev_int1 (ev_var h0)) ev_c (by decide)
  have h2 : j % 2 = 0 ∨ j % 2 = 1 := by omega
  rcases h2 with h2 | h2 <;> rw [h2] at hm
  · refine q_asg (ev_pickL hEB (by decide) (hm rfl) rfl) fun H3 e3 => main lsigns Tk.isL (1 + j / 3 % 5) (by decide) (by decide) (by decide) (fun t h0 h => .inr (.inl ⟨h0, h⟩)) (by omega) (by omega) H3 e3 fun h0 => ?_
    exact ev_is (ev_add ev_c (ev_mod (ev_fdiv (ev_int1 (ev_var h0)) ev_c ⟨by decide, by decide⟩) (ev_pickL hEA (by show 2 ≤ 1000; omega) (hm h0) rfl) (by decide))) (congrArg V.int (by omega))
  · refine q_asg (ev_pickL hEB (by decide) (hm rfl) rfl) fun H3 e3 => main Tk.digits Tk.isD (1 + j / 3 % 20) (by decide) (by decide) (by decide) (fun t h0 h => .inr (.inr ⟨h0, h⟩)) (by omega) (by omega) H3 e3 fun h0 => ?_
    exact ev_is (ev_add ev_c (ev_mod (ev_fdiv (ev_int1 (ev_var h0)) ev_c ⟨by decide, by decide⟩) (ev_pickL hEA (by show 2 ≤ 1000; omega) (hm h0) rfl) (by decide))) (congrArg V.int (by omega))
/-! ### do two of them meet -/
def pLMeet : V → V → Hp → VP → Prop := fun x y H R => ∃ (f s : List Nat) (c : Nat), x = vS f ∧ y = vS s ∧ f ≠ [] ∧ s.head? = some c ∧ f.length ≤ 20 ∧ s.length ≤ 20 ∧ R = fun v _ => v = .bl (Tk.cont f c)
def sp_law_meet (K : PySem.W.Frag) : Sp := spF2 pLMeet
def t_law_meet (K : PySem.W.Frag) : TS := (tSeq (tAsg (tC (.str "abcdefghijklmnopqrstuvwxyzABCDEFGHIJKLMNOPQRSTUVWXYZ")) (gName 2))
    (tSeq (tIfS (tAnd (tTest (tOp rInS1 (tOp rIxS (tVar 0) (tUn xNeg (tC (.int 1)))) (tVar 2))) (tTest (tOp rInS1 (tOp rIxS (tVar 1) (tC (.int 0))) (tVar 2)))) (tRet (tC (.bl true))) tNext)
    (tSeq (tIfS (tAnd (tTest (tOp rInS1 (tOp rIxS (tVar 0) (tUn xNeg (tC (.int 1)))) (tC (.str "0123456789")))) (tTest (tOp rInS1 (tOp rIxS (tVar 1) (tC (.int 0))) (tC (.str "0123456789"))))) (tRet (tC (.bl true))) tNext)
    (tSeq (tIfS (tAnd (tTest (tOp rInS1 (tOp rIxS (tVar 0) (tUn xNeg (tC (.int 1)))) (tC (.str "<>=!")))) (tTest (tOp rInS1 (tOp rIxS (tVar 1) (tC (.int 0))) (tC (.str "<>="))))) (tRet (tC (.bl true))) tNext)
    (tRet (tAndV (tOp rEq (tVar 0) (tC (.str "2"))) (tOp rEq (tOp rIxS (tVar 1) (tC (.int 0))) (tC (.str "^")))))))))
theorem atI_last {α : Type} {xs : List α} {z : α} (h : xs.getLast? = some z) : atI xs (-1) = some z := by
  have h0 : xs ≠ [] := fun q => by rw [q] at h; cases h
  have hl : 0 < xs.length := List.length_pos_iff.mpr h0
  unfold atI ixN
  rw [if_neg (by decide), if_pos (by omega)]
  show xs[((-1 : Int) + (xs.length : Int)).toNat]? = some z
  rw [show ((-1 : Int) + (xs.length : Int)).toNat = xs.length - 1 by omega, ← List.getLast?_eq_getElem?]
  exact h
theorem pure_law_meet {K : PySem.W.Frag} {vs : List V} {H : Hp} {Q : VK} {E : XK} (h : sp_law_meet K vs H Q E) : t_law_meet K { nx := fun _ H' => Q .non H', rt := Q } (start ["first", "second", "letters"] vs) H := by
  obtain ⟨x, y, R, rfl, ⟨f, s, c, rfl, rfl, hf0, hs, hf, hsl, rfl⟩, k⟩ := h
  obtain ⟨z, hz⟩ : ∃ z, f.getLast? = some z := ⟨_, List.getLast?_eq_getLast hf0⟩
  have hc : s[0]? = some c := by rw [← List.head?_eq_getElem?]; exact hs
  have el : ∀ {σ : L2.St} {H' : Hp}, σ[0]? = some (some (vS f)) → Ev (tOp rIxS (tVar 0) (tUn xNeg (tC (.int 1)))) σ H' (vS [z]) := fun h0 => ev_atS (ev_var h0) (ev_neg ev_c) (by omega) (atI_last hz)
  have eh : ∀ {σ : L2.St} {H' : Hp}, σ[1]? = some (some (vS s)) → Ev (tOp rIxS (tVar 1) (tC (.int 0))) σ H' (vS [c]) := fun h0 => ev_atS (ev_var h0) ev_c (by omega) (atI_n (i := 0) hc)
  have hcont : Tk.cont f c = ((Tk.isL z && Tk.isL c) || (Tk.isD z && Tk.isD c) || (decide (z ∈ [60, 62, 61, 33]) && decide (c ∈ [60, 62, 61])) || (decide (f = [50]) && decide (c = 94))) := by
    unfold Tk.cont; rw [hz]
  refine q_asg (ev_cS (l := Tk.letters) (by decide +kernel)) fun H1 e1 => ?_
  refine q_when (b := Tk.isL z && Tk.isL c) (et_and (et_test (ev_inS (el rfl) (ev_var rfl))) fun _ => et_test (ev_inS (eh rfl) (ev_var rfl))) (fun hb H2 e2 => ?_) (fun hb H2 e2 => ?_)
  · exact s_ret ev_c fun H3 e3 => k _ _ (e1.trans (e2.trans e3)) (by rw [hcont, hb]; rfl)
  refine q_when (b := Tk.isD z && Tk.isD c) (et_and (et_test (ev_inS (el rfl) (ev_cS (l := Tk.digits) (by decide +kernel)))) fun _ => et_test (ev_inS (eh rfl) (ev_cS (l := Tk.digits) (by decide +kernel)))) (fun hb2 H3 e3 => ?_) (fun hb2 H3 e3 => ?_)
  · exact s_ret ev_c fun H4 e4 => k _ _ (e1.trans (e2.trans (e3.trans e4))) (by rw [hcont, hb, hb2]; rfl)
  refine q_when (b := decide (z ∈ [60, 62, 61, 33]) && decide (c ∈ [60, 62, 61])) (et_and (et_test (ev_inS (el rfl) (ev_cS (l := [60, 62, 61, 33]) (by rfl)))) fun _ => et_test (ev_inS (eh rfl) (ev_cS (l := [60, 62, 61]) (by rfl)))) (fun hb3 H4 e4 => ?_) (fun hb3 H4 e4 => ?_)
  · exact s_ret ev_c fun H5 e5 => k _ _ (e1.trans (e2.trans (e3.trans (e4.trans e5)))) (by rw [hcont, hb, hb2, hb3]; rfl)
  · refine s_ret (ev_andV (ev_eqS (ev_var rfl) (ev_cS (l := [50]) (by rfl))) fun _ => ev_eqS (eh rfl) (ev_cS (l := [94]) (by rfl))) fun H5 e5 => k _ _ (e1.trans (e2.trans (e3.trans (e4.trans e5)))) ?_
    rw [hcont, hb, hb2, hb3]
    have : decide (([c] : List Nat) = [94]) = decide (c = 94) := by rw [Bool.eq_iff_iff]; simp
    rw [this]; rfl
end Sk

set_option Elab.async false
set_option linter.all false
set_option maxRecDepth 100000
set_option maxHeartbeats 1000000
namespace Sk
open PySem PySem.Spec PyProof.Rows L2
/-! ### enumerate(text) -/
/-- each sign with its place, in a new pair -/
def ItEnS (x : Str) : It := ⟨fun i _ => i < x.cps.size, fun i H v H' => ∃ p c, v = .ref p ∧ H p = none ∧ H' = upd H p (.tup [.int (i : Nat), .str ⟨#[c]⟩]) ∧ x.cps[i]? = some c, fun i _ => i = x.cps.size⟩
/-- what both kinds of a text's iterator do -/
structure DrS (prog : Program) (w : World) (it : Addr) (x : Str) (t : Tok) (ty : String) : Prop where
  dr : ∀ A : Around, A.handled = none → Draws prog w A it [it] x.cps.size (fun i v => ∃ c u, x.cps[i]? = some c ∧ v = .str ⟨#[c]⟩ u) (fun i h => h.IsStrIter it ty x t i)
theorem drA {prog : Program} {w : World} {it : Addr} {x : Str} {t : Tok} : DrS prog w it x t "str_ascii_iterator" := ⟨fun A h => Draws.strAscii h it x t⟩
theorem drW {prog : Program} {w : World} {it : Addr} {x : Str} {t : Tok} : DrS prog w it x t "str_iterator" := ⟨fun A h => Draws.strWide h it x t⟩
theorem turnEnS {P : Program} {w : World} {K : PySem.W.Frag} {elts : List Expr} {kk : Nat} {tpos : Pos} {x : Str} {t : Tok} {ty : String} (e it : Addr) (hen : e ≠ it) (D : DrS P w it x t ty) :
    Turn P w K (.Tuple elts kk tpos) (ItEnS x) [e, it] e (fun i h => (∃ v, IsEnum h e it ((i : Nat) : Int) v) ∧ h.IsStrIter it ty x t i) := by
  have two : ∀ b ∈ [e, it], b = e ∨ b = it := fun b hb => by simpa using hb
  refine ⟨by simp, ?_, ?_, ?_, ?_, ?_⟩
  · rintro i h ⟨⟨v, g1⟩, o, g2, g3, g4⟩ b hb
    rcases two b hb with q | q <;> subst q
    · exact ⟨_, g1, fun u q => nomatch q⟩
    · exact ⟨o, g2, fun u q => by rw [g4] at q; cases q⟩
  · rintro i h h' ⟨⟨v, g1⟩, o, g2, g3⟩ k
    exact ⟨⟨v, k e (by simp) _ g1⟩, o, k it (by simp) o g2, g3⟩
  · intro X q1 q2 q3 hc i pins s σ H E I hf ⟨⟨v, g1⟩, g2⟩ hlt
    subst q1 q2 q3
    have le : e < s.heap.objs.size := Heap.lt_size g1
    have li : it < s.heap.objs.size := by obtain ⟨_, q, _⟩ := g2; exact Heap.lt_size q
    refine wpAny_pyNext_enum_itemD (D.dr X.A.in1 (I.ok.hd hc)) g1 g2 hlt hen (by simpa using hen) fun u h1 tk hu out g3 tup sz old => ?_
    obtain ⟨c, tc, hcx, rfl⟩ := hu
    refine ⟨_, rfl, wpAny_letOwnedTupleGo_enum (s := { s with heap := h1, toks := tk + 1 }) out fun h2 en2 sb => ?_⟩
    have tup2 : h2.get? s.heap.objs.size = some { cls := .type "tuple", data := .seq #[.int i tk, .str ⟨#[c]⟩ tc] } := (sb.2 _ (Nat.ne_of_gt le)).trans tup
    let ob : HO := .tup [.int (i : Nat), .str ⟨#[c]⟩]
    have nw : ObjOk X.prog X.w (upd H s.heap.objs.size ob) h2 s.heap.objs.size ob := ⟨by show 2 ≤ sizeLine; decide, [_, _], .cons ⟨tk, rfl⟩ (.cons ⟨tc, rfl⟩ .nil), ⟨_, tup2, rfl, _, rfl⟩⟩
    have J : Inv X pins σ (upd H s.heap.objs.size ob) { s with heap := h2, toks := tk + 1 } := I.turnedNew (ch := [e, it]) (fun b o hb q => by
      have hb1 : b ≠ e := fun z => hb (by simp [z])
      have hb2 : b ≠ it := fun z => hb (by simp [z])
      exact (sb.2 b hb1).trans (old b o hb1 hb2 q)) hf (Nat.le_refl _) nw
    refine ⟨.ref s.heap.objs.size, _, J, rfl, ⟨_, c, rfl, I.hok.fresh (Nat.le_refl _), rfl, hcx⟩, ⟨⟨_, by
      rw [show ((i + 1 : Nat) : Int) = (i : Int) + 1 by omega]
      exact en2⟩, ?_⟩, fun b hb => ?_⟩
    · obtain ⟨o, k1, k2⟩ := ‹Heap.IsStrIter h1 it ty x t (i + 1)›
      exact ⟨o, (sb.2 it (Ne.symm hen)).trans k1, k2⟩
    · have lb : b < s.heap.objs.size := by rcases two b hb with q | q <;> subst q <;> assumption
      rw [upd_ne (Nat.ne_of_lt lb)]
      exact (hf b hb).1
  · intro X q1 q2 q3 hc i pins s σ H E I hf ⟨⟨v, g1⟩, g2⟩ hge
    subst q1 q2 q3
    obtain ⟨f0, f1, f2, f3, f4, f5⟩ := hf it (by simp)
    have hst : s.heap.IsStrIter it ty x t x.cps.size := by rw [← show i = x.cps.size from hge]; exact g2
    exact wpAny_pyNext_enum_endD (D.dr X.A.in1 (I.ok.hd hc)) g1 hst fun h' eb => ⟨rfl, I.turned (t' := s.toks) (fun b o hb q => eb b o hb q) f0 f1 f3 f4 f5⟩
  · exact fun A i s Q E ⟨⟨_, g1⟩, _⟩ h => wpAny_pyIter_enum g1 h
def iEnumS (ta : TA) : TI := fun σ H R => ta σ H fun vs H1 => ∃ x, vs = [.str x] ∧ R (ItEnS x) H1
theorem pi_enumS {X : Cx} {e : Expr} {ta : TA} {p pos tpos : Pos} {elts : List Expr} {kk : Nat} (hg : Gl X "enumerate") (hm : X.mg "enumerate" = none) (ha : PA X [e] ta) (hs : starEach [e] X.env = [(false, eval e X.env)] := by rfl) :
    PI X (.Tuple elts kk tpos) (.Call (.Name "enumerate" p) [e] [] pos) (iEnumS ta) := ⟨fun pins s σ H R I h => by
  refine Call_ (ld_blt I hg hm boot_enumerate (callWith_type1 (thn (ha.run pos pins s σ H _ I h) fun us s1 ⟨vs, H1, I1, r1, x, ex, q⟩ => ?_) hs rfl))
  subst ex
  obtain ⟨t, us', rfl⟩ : ∃ t us', us = .str x t :: us' := by
    cases r1 with
    | cons r rr => obtain ⟨t, rfl⟩ := r; exact ⟨t, _, rfl⟩
  have hn : us' = [] := by
    cases r1 with
    | cons r rr => cases rr; rfl
  subst hn
  refine call_enumerate_str fun h1 en st sz old => wpAny_pyIter_enum en ?_
  let n := s1.heap.objs.size
  have J : Inv X pins σ H1 { s1 with heap := h1 } := I1.kept (t' := s1.toks) old
  have fresh : ∀ b ∈ [n + 1, n], FpOk X pins H1 b := fun b hb => by
    have le : n ≤ b := by
      have : b = n + 1 ∨ b = n := by simpa using hb
      omega
    exact I1.fpOk le (I1.hok.fresh le)
  have ne : n + 1 ≠ n := Nat.succ_ne_self _
  by_cases hty : strIterType x = "str_ascii_iterator"
  · rw [hty] at st
    exact ⟨n + 1, _, _, _, H1, rfl, J, turnEnS (n + 1) n ne drA, ⟨⟨_, en⟩, st⟩, fresh, q⟩
  · have hty2 : strIterType x = "str_iterator" := by
      unfold strIterType at hty ⊢
      split at hty <;> first | exact absurd rfl hty | (rename_i h; rw [if_neg h])
    rw [hty2] at st
    exact ⟨n + 1, _, _, _, H1, rfl, J, turnEnS (n + 1) n ne drW, ⟨⟨_, en⟩, st⟩, fresh, q⟩⟩
end Sk

set_option Elab.async false
set_option linter.all false
set_option maxRecDepth 100000
set_option maxHeartbeats 1000000
namespace Sk
open PySem L2 Evl
/-- for i, c in enumerate(text) -/
theorem q_forEnS {K : PySem.W.Frag} {σ : L2.St} {H : Hp} {D : Ends} {tz tb : TS} {i j : Nat} {te : TE} {l : List Nat} (h : Ev te σ H (vS l)) (Pv : Nat → L2.St → Hp → Prop) (h0 : ∀ H1, Ex H H1 → Pv 0 σ H1)
    (hs : ∀ m c σ' H', l[m]? = some c → Pv m σ' H' → ∀ H1, Ex H' H1 → tb { D with nx := Pv (m + 1), ct := Pv (m + 1), bk := tz D } ((σ'.set i (some (.int (m : Int)))).set j (some (vS [c]))) H1) (hd : ∀ σ' H', Pv l.length σ' H' → tz D σ' H') :
    tSeq (tFor (iEnumS (tCons te tNil)) (gTup K 2 (gCons (gName i) (gCons (gName j) gNil))) tb) tz D σ H := by
  refine h H (Ex.refl _) _ fun H1 e1 => ⟨mkS l, rfl, ?_⟩
  have hsz : (mkS l).cps.size = l.length := by simp [mkS]
  refine forE_by (D := { D with nx := tz D }) (u := fun D' => D'.nx) l.length Pv (h0 H1 e1) (fun m σ' H' hm _ => by show m < (mkS l).cps.size; rw [hsz]; exact hm) (fun σ' H' _ => by show l.length = (mkS l).cps.size; rw [hsz]) (fun m v σ' H' H'' hm p y => ?_) hd
  obtain ⟨q, c, h1, h2, h3, h4⟩ := y
  subst h1 h3
  have hc : l[m]? = some c := by simpa [mkS] using h4
  exact g_pair (st_of upd_same) (hs m c σ' H' hc p _ (Ex.new h2))
end Sk

set_option Elab.async false
set_option linter.all false
set_option maxRecDepth 100000
set_option maxHeartbeats 1000000
namespace Sk
open PySem PySem.Spec PyProof.Rows HT L2 Evl
/-! ### s[::-1], s a text -/
def tRevS (te : TE) : TE := fun σ H Q => te σ H fun x H1 => ∃ l, x = vS l ∧ l.length ≤ 100000 ∧ Q (vS l.reverse) H1
theorem rev_pick (l : List Nat) : (⟨((Builtin.Str.strSliceIndices none none (-1) (mkS l).length).filterMap ((mkS l).cps[·]?)).toArray⟩ : Str) = mkS l.reverse := by
  have hn : (mkS l).length = l.length := mkS_len l
  unfold Builtin.Str.strSliceIndices
  rw [hn]
  show (⟨((sliceRange ((l.length : Int) - 1) (-1) (-1)).filterMap ((mkS l).cps[·]?)).toArray⟩ : Str) = _
  rw [PySem.W.krv_sliceRange, PySem.W.krv_range, List.filterMap_reverse]
  have h := PySem.W.krv_all (mkS l).cps
  have hs : (mkS l).cps.size = l.length := by simp [mkS]
  rw [hs] at h
  rw [h]
  rfl
theorem pe_revS {X : Cx} {e : Expr} {te : TE} {k : Nat} {p1 p2 p3 pos : Pos} (he : PE X e te) : PE X (.Subscript e (.Slice none none (some (.UnaryOp .USub (.Constant (.int 1) k p1) p2)) p3) pos) (tRevS te) := by
  refine ⟨fun pins s σ H Q I h => ?_⟩
  refine Subscript_ (thn (he.run pins s σ H _ I h) fun v s1 ⟨x, H1, I1, r1, l, ex, hl, q⟩ => ?_)
  subst ex
  obtain ⟨t, rfl⟩ := r1
  have hst : PO X (some (.UnaryOp .USub (.Constant (.int 1) k p1) p2)) (tPart (tUn (rU fun i => .int (-i)) (tC (.int 1)))) := po_some (pe_un un_neg pe_int)
  refine wpAny_Slice (thn (po_none.run pins s1 σ H1 (fun o H2 => o = none ∧ H2 = H1) I1 ⟨rfl, rfl⟩) fun vl s2 ⟨lo, H2, I2, pl, el, e2⟩ => ?_)
  subst el e2
  refine thn (po_none.run pins s2 σ H2 (fun o H3 => o = none ∧ H3 = H2) I2 ⟨rfl, rfl⟩) fun vu s3 ⟨u, H3, I3, pu, eu, e3⟩ => ?_
  subst eu e3
  refine thn (hst.run pins s3 σ H3 (fun o H4 => o = some (-1) ∧ H4 = H3) I3 ⟨1, rfl, -1, rfl, rfl, rfl⟩) fun vs s4 ⟨o, H4, I4, ps, eo, e4⟩ => ?_
  subst eo e4
  cases pl
  cases pu
  obtain ⟨q0, rfl, hq0⟩ := IsPart.raw ps
  obtain ⟨z, hz, hz1⟩ := Option.map_eq_some_iff.mp hq0
  subst hz
  have I5 : Inv X pins σ H4 { s4 with heap := s4.heap.push { cls := .type "slice", data := .fields #[.none, .none, partValue (some z)] } } := I4.kept (t' := s4.toks) fun b ob q => Heap.get?_push_of_some _ q
  refine tail_any (ops := [.str (mkS l) t, .ref s4.heap.objs.size]) (typeIs_str _ _ _) F.slot_str_getitem.lookup ?_ (by with_unfolding_all rfl)
  refine wpAny_getItem_str_slice (l := none) (u := none) (st := some z) (Heap.IsSliceOf.new _ .none .none _) (by show (z.1 == 0) = false; rw [hz1]; rfl) ?_
  show Made.post (if (z.1 == 1 && (Builtin.Str.strSliceIndices none none z.1 (mkS l).length).length == (mkS l).length) = true then Made.val (.str (mkS l) t)
    else Made.str ⟨((Builtin.Str.strSliceIndices none none z.1 (mkS l).length).filterMap ((mkS l).cps[·]?)).toArray⟩) (EP X pins σ Q) _
  rw [hz1, if_neg (by simp), rev_pick]
  exact ⟨by rw [mkS_len, List.length_reverse]; exact Nat.le_trans hl (by decide), vS l.reverse, _, I5.tok _, ⟨_, rfl⟩, q⟩
section
variable {K : PySem.W.Frag} {σ : L2.St} {H : Hp} {te : TE} {l : List Nat}
theorem ev_revS (h : Ev te σ H (vS l)) (hl : l.length ≤ 100000) : Ev (tRevS te) σ H (vS l.reverse) := fun H1 e Q q => h H1 e _ fun H2 e2 => ⟨l, rfl, hl, q H2 e2⟩
end
end Sk

set_option Elab.async false
set_option linter.all false
set_option maxRecDepth 100000
set_option maxHeartbeats 1000000
namespace Sk
open PySem PySem.Spec PyProof.Rows HT L2 Evl
/-! ### great and small letters -/
def up (c : Nat) : Nat := if 97 ≤ c ∧ c ≤ 122 then c - 32 else c
def lo (c : Nat) : Nat := if 65 ≤ c ∧ c ≤ 90 then c + 32 else c
def sw (c : Nat) : Nat := if 65 ≤ c ∧ c ≤ 90 then c + 32 else if 97 ≤ c ∧ c ≤ 122 then c - 32 else c
def isA (c : Nat) : Bool := decide (65 ≤ c ∧ c ≤ 90) || decide (97 ≤ c ∧ c ≤ 122)
def Asc (l : List Nat) : Prop := ∀ c ∈ l, c < 128
theorem mkS_cons (c : Nat) (l : List Nat) : mkS (c :: l) = mkS [c] ++ mkS l := by rw [mkS_app]; rfl
theorem txt_upper : ∀ {l : List Nat}, Asc l → Txt.upper (mkS l) = mkS (l.map up)
  | [], _ => by decide +kernel
  | c :: l, h => by
    rw [mkS_cons, PySem.W.KOpn.upper_app, txt_upper (l := l) fun d hd => h d (List.mem_cons_of_mem _ hd)]
    have h1 : Txt.upper (mkS [c]) = mkS [up c] := PySem.W.KOpn.upper_one (h c (List.mem_cons_self ..))
    rw [h1, mkS_app]
    rfl
theorem txt_lower1 {c : Nat} (h : c < 128) : Txt.lower (mkS [c]) = mkS [lo c] := (by decide +kernel : ∀ c, c < 128 → Txt.lower (mkS [c]) = mkS [lo c]) c h
theorem txt_alpha1 {c : Nat} (h : c < 128) : Txt.isalpha (mkS [c]) = isA c := (by decide +kernel : ∀ c, c < 128 → Txt.isalpha (mkS [c]) = isA c) c h
theorem swap_one : ∀ c, c < 128 → (if Unicode.isUpper c then Unicode.lowerOf c else if Unicode.isLower c then Unicode.upperOf c else [c]) = [sw c] := by decide +kernel
theorem txt_swap {l : List Nat} (h : Asc l) : Txt.swapcase (mkS l) = mkS (l.map sw) := by
  have e1 : placed (mkS l) (fun i c => if Unicode.isUpper c then Unicode.lowerAt (mkS l).cps i else if Unicode.isLower c then Unicode.upperOf c else [c]) = placed (mkS l) (fun _ c => [sw c]) := by
    unfold placed
    congr 1
    apply Array.ext
    · simp
    · intro i h1 h2
      simp only [Array.getElem_mapIdx]
      congr 1
      have hi : i < l.length := by simpa [mkS] using h1
      have hc : (mkS l).cps[i] = l[i] := by simp [mkS]
      have hlt : l[i] < 128 := h _ (List.getElem_mem hi)
      have hl : Unicode.lowerAt (mkS l).cps i = Unicode.lowerOf l[i] := by
        unfold Unicode.lowerAt
        have : (mkS l).cps[i]? = some l[i] := by simp [mkS, hi]
        rw [this]
        show (if (l[i] == 931 && Unicode.endsWord (mkS l).cps i) = true then [962] else Unicode.lowerOf l[i]) = _
        rw [if_neg]
        rw [Bool.and_eq_true, beq_iff_eq]
        intro q
        omega
      generalize hcc : (mkS l).cps[i] = cc
      have hc2 : cc = l[i] := by rw [← hcc]; exact hc
      subst hc2
      rw [hl]
      exact swap_one _ hlt
  show (⟨placed (mkS l) (fun i c => if Unicode.isUpper c then Unicode.lowerAt (mkS l).cps i else if Unicode.isLower c then Unicode.upperOf c else [c])⟩ : Str) = _
  rw [e1]
  have e2 : ∀ l : List Nat, (⟨placed (mkS l) (fun _ c => [sw c])⟩ : Str) = mkS (l.map sw) := by
    intro l
    induction l with
    | nil => rfl
    | cons c l ih =>
      have h1 : placed (mkS (c :: l)) (fun _ c => [sw c]) = placed (mkS [c]) (fun _ c => [sw c]) ++ placed (mkS l) (fun _ c => [sw c]) := by
        rw [mkS_cons]; exact PySem.W.KOpn.placed_app (fun c => [sw c]) _ _
      have h2 : placed (mkS [c]) (fun _ c => [sw c]) = #[sw c] := rfl
      rw [h1, h2]
      have h3 : placed (mkS l) (fun _ c => [sw c]) = (l.map sw).toArray := congrArg Str.cps ih
      rw [h3]
      show (⟨#[sw c] ++ (l.map sw).toArray⟩ : Str) = ⟨((c :: l).map sw).toArray⟩
      simp
  exact e2 l
/-! ### reading terms -/
def xUpS : V → List V → Hp → VK → Prop := fun x xs H Q => ∃ l, x = vS l ∧ xs = [] ∧ Asc l ∧ l.length ≤ 100000 ∧ Q (vS (l.map up)) H
def xSwS : V → List V → Hp → VK → Prop := fun x xs H Q => ∃ l, x = vS l ∧ xs = [] ∧ Asc l ∧ l.length ≤ 100000 ∧ Q (vS (l.map sw)) H
def xLoS : V → List V → Hp → VK → Prop := fun x xs H Q => ∃ c, x = vS [c] ∧ xs = [] ∧ c < 128 ∧ Q (vS [lo c]) H
def xIsA : V → List V → Hp → VK → Prop := fun x xs H Q => ∃ c, x = vS [c] ∧ xs = [] ∧ c < 128 ∧ Q (.bl (isA c)) H
section
variable {X : Cx} {o : Expr} {to : TE} {apos pos : Pos}
theorem mt_upS : MtR X "str.upper" xUpS := fun pins s σ H x xs v us Q I rx rs h => by
  obtain ⟨l, rfl, rfl, ha, hl, q⟩ := h
  exact mt_upper pins s σ H _ _ v us Q I rx rs ⟨mkS l, rfl, rfl, by rw [mkS_len]; exact Nat.le_trans hl (by decide), by rw [txt_upper ha]; exact q⟩
theorem mt_loS : MtR X "str.lower" xLoS := fun pins s σ H x xs v us Q I rx rs h => by
  obtain ⟨c, rfl, rfl, ha, q⟩ := h
  exact mt_lower pins s σ H _ _ v us Q I rx rs ⟨mkS [c], rfl, rfl, by rw [mkS_len]; show 1 ≤ 5592405; omega, by rw [txt_lower1 ha]; exact q⟩
theorem mt_isA : MtR X "str.isalpha" xIsA := fun pins s σ H x xs v us Q I rx rs h => by
  obtain ⟨c, rfl, rfl, ha, q⟩ := h
  exact mt_isalpha pins s σ H _ _ v us Q I rx rs ⟨mkS [c], rfl, rfl, trivial, by rw [txt_alpha1 ha]; exact q⟩
theorem mt_swS : MtR X "str.swapcase" xSwS := fun pins s σ H x xs v us Q I rx rs h => by
  obtain ⟨l, rfl, rfl, ha, hl, q⟩ := h
  obtain ⟨t, rfl⟩ := rx
  cases rs
  refine PySem.W.KXw.swapcase (txt_swap ha) (PyProof.Rows.short24 ?_) fun t' k => ⟨vS _, H, I.tok k, ⟨t', rfl⟩, q⟩
  rw [txt_swap ha, mkS_len, List.length_map]
  omega
theorem pe_upS (ho : PE X o to) (hbase : attributeBase o "upper" X.env (eval o X.env) = eval o X.env := by rfl) (hline : (apos.endLine == pos.line) = true := by rfl) : PE X (.Call (.Attribute o "upper" apos) [] [] pos) (tM0 xUpS to) := pe_m0 F.slot_str_upper F.type_str_upper mt_upS ho hbase hline
theorem pe_loS (ho : PE X o to) (hbase : attributeBase o "lower" X.env (eval o X.env) = eval o X.env := by rfl) (hline : (apos.endLine == pos.line) = true := by rfl) : PE X (.Call (.Attribute o "lower" apos) [] [] pos) (tM0 xLoS to) := pe_m0 F.slot_str_lower F.type_str_lower mt_loS ho hbase hline
theorem pe_swS (ho : PE X o to) (hbase : attributeBase o "swapcase" X.env (eval o X.env) = eval o X.env := by rfl) (hline : (apos.endLine == pos.line) = true := by rfl) : PE X (.Call (.Attribute o "swapcase" apos) [] [] pos) (tM0 xSwS to) := pe_m0 F.slot_str_swapcase F.type_str_swapcase mt_swS ho hbase hline
theorem pe_isA (ho : PE X o to) (hbase : attributeBase o "isalpha" X.env (eval o X.env) = eval o X.env := by rfl) (hline : (apos.endLine == pos.line) = true := by rfl) : PE X (.Call (.Attribute o "isalpha" apos) [] [] pos) (tM0 xIsA to) := pe_m0 F.slot_str_isalpha F.type_str_isalpha mt_isA ho hbase hline
end
section
variable {K : PySem.W.Frag} {σ : L2.St} {H : Hp} {te hx : TE} {l : List Nat} {c : Nat} {D : Ends} {tz tb : TS} {j : Nat}
theorem ev_upS (h : Ev te σ H (vS l)) (ha : Asc l) (hl : l.length ≤ 100000) : Ev (tM0 xUpS te) σ H (vS (l.map up)) := fun H1 e Q q => h H1 e _ fun H2 e2 => ⟨⟨_, rfl⟩, l, rfl, rfl, ha, hl, q H2 e2⟩
theorem ev_swS (h : Ev te σ H (vS l)) (ha : Asc l) (hl : l.length ≤ 100000) : Ev (tM0 xSwS te) σ H (vS (l.map sw)) := fun H1 e Q q => h H1 e _ fun H2 e2 => ⟨⟨_, rfl⟩, l, rfl, rfl, ha, hl, q H2 e2⟩
theorem ev_loS (h : Ev te σ H (vS [c])) (ha : c < 128) : Ev (tM0 xLoS te) σ H (vS [lo c]) := fun H1 e Q q => h H1 e _ fun H2 e2 => ⟨⟨_, rfl⟩, c, rfl, rfl, ha, q H2 e2⟩
theorem ev_isA (h : Ev te σ H (vS [c])) (ha : c < 128) : Ev (tM0 xIsA te) σ H (.bl (isA c)) := fun H1 e Q q => h H1 e _ fun H2 e2 => ⟨⟨_, rfl⟩, c, rfl, rfl, ha, q H2 e2⟩
theorem ev_upS1 (h : Ev te σ H (vS [c])) (ha : c < 128) : Ev (tM0 xUpS te) σ H (vS [up c]) := ev_upS h (fun d hd => by rw [List.mem_singleton.mp hd]; exact ha) (by show 1 ≤ 100000; omega)
/-- for c in text -/
theorem q_forS (h : Ev hx σ H (vS l)) (Pv : Nat → L2.St → Hp → Prop) (h0 : ∀ H1, Ex H H1 → Pv 0 σ H1)
    (hs : ∀ m c σ' H', l[m]? = some c → Pv m σ' H' → tb { D with nx := Pv (m + 1), ct := Pv (m + 1), bk := tz D } (σ'.set j (some (vS [c]))) H') (hd : ∀ σ' H', Pv l.length σ' H' → tz D σ' H') :
    tSeq (tFor (iStr hx) (gName j) tb) tz D σ H := by
  refine h H (Ex.refl _) _ fun H1 e1 => ⟨mkS l, rfl, ?_⟩
  have hsz : (mkS l).cps.size = l.length := by simp [mkS]
  refine forE_by (D := { D with nx := tz D }) (u := fun D' => D'.nx) l.length Pv (h0 H1 e1) (fun m σ' H' hm _ => by show m < (mkS l).cps.size; rw [hsz]; exact hm) (fun σ' H' _ => by show (mkS l).cps.size ≤ l.length; rw [hsz]; exact Nat.le_refl _) (fun m v σ' H' H'' hm p y => ?_) hd
  obtain ⟨h1, c, h3, h4⟩ := y
  subst h1 h4
  have hc : l[m]? = some c := by simpa [mkS] using h3
  exact hs m c σ' H'' hc p
/-- [f(c) for c in text], scalars -/
theorem ev_lcS {f : Nat → V} (h : Ev hx σ H (vS l)) (hl : l.length ≤ 90000) (hw : ∀ x : V, wipe ((wipe σ [j]).set j (some x)) [j] = wipe σ [j]) (hb : ∀ c H1, c ∈ l → Ex H H1 → Ev te ((wipe σ [j]).set j (some (vS [c]))) H1 (f c)) :
    EvL (tLc (iStr hx) (gName j) tYes te [j]) σ H (l.map f) := by
  intro H0 e0 Q q
  refine h H0 e0 _ fun H1 e1 => ⟨mkS l, rfl, fun p hp => ?_⟩
  have hsz : (mkS l).cps.size = l.length := by simp [mkS]
  refine ⟨fun i m H' => m = l.length - i ∧ i ≤ l.length ∧ Ex H1 H' ∧ H' p = some (.lst ((l.take i).map f)), ⟨l.length, rfl, Nat.zero_le _, Ex.new hp, by rw [List.take_zero, upd_same]; rfl⟩, ?_⟩
  rintro i m H' ⟨rfl, hi, e2, h2⟩
  rcases Nat.lt_or_ge i l.length with hlt | hge
  · refine .inr ⟨by show i < (mkS l).cps.size; rw [hsz]; exact hlt, fun H'' => i + 1 ≤ l.length ∧ Ex H1 H'' ∧ H'' p = some (.lst ((l.take (i + 1)).map f)), fun H'' hN => ⟨l.length - (i + 1), by omega, rfl, hN⟩, fun x H'' y => ?_⟩
    obtain ⟨hH, c, hc, hx⟩ := y
    subst hH hx
    have hc' : l[i]? = some c := by simpa [mkS] using hc
    refine ⟨hw _, ?_⟩
    show te _ _ _
    refine hb c H'' (List.mem_of_getElem? hc') (e0.trans (e1.trans e2)) H'' (Ex.refl H'') _ fun H3 e3 => ⟨(l.take i).map f, e3 p _ h2, sz_lt (by rw [List.length_map, List.length_take]; omega), by omega, Ex.mut (e2.trans e3) hp, ?_⟩
    rw [upd_same, show l.take (i + 1) = l.take i ++ [c] by rw [List.take_add_one, hc']; rfl, List.map_append]
    rfl
  · have : i = l.length := by omega
    subst this
    rw [List.take_length] at h2
    exact .inl ⟨by show (mkS l).cps.size ≤ l.length; rw [hsz]; exact Nat.le_refl _, q p H' (fresh_back e1 hp) (e1.trans e2) h2⟩
end
end Sk

set_option Elab.async false
set_option linter.all false
set_option maxRecDepth 100000
set_option maxHeartbeats 1000000
namespace Sk
open PySem L2 Evl
/-! ### is_word, inverse_word -/
def isW (al w : List Nat) : Bool := decide (w.length ≤ 40) && w.all fun c => decide (c ∈ al ++ al.map up)
def pIsWord : V → V → Hp → VP → Prop := fun x y H R => ∃ (al w : List Nat), x = vS al ∧ y = vS w ∧ Asc al ∧ al.length ≤ 1000 ∧ w.length ≤ 1000 ∧ R = fun v _ => v = .bl (isW al w)
def sp_is_word (K : PySem.W.Frag) : Sp := spF2 pIsWord
def t_is_word (K : PySem.W.Frag) : TS := (tSeq (tAsg (tOp xAddS (tVar 0) (tM0 xUpS (tVar 0))) (gName 2))
    (tRet (tAndV (tOp xLe (tCB xLenS (tCons (tVar 1) tNil)) (tC (.int 40))) (tCB (rAll K) (tCons (tLc (iStr (tVar 1)) (gName 3) tYes (tOp rInS1 (tVar 3) (tVar 2)) [3]) tNil)))))
theorem pure_is_word {K : PySem.W.Frag} {vs : List V} {H : Hp} {Q : VK} {E : XK} (h : sp_is_word K vs H Q E) : t_is_word K { nx := fun _ H' => Q .non H', rt := Q } (start ["letters", "word", "signs", "sign"] vs) H := by
  obtain ⟨x, y, R, rfl, ⟨al, w, rfl, rfl, ha, hal, hw, rfl⟩, k⟩ := h
  refine q_asg (ev_addS (ev_var rfl) (ev_upS (ev_var rfl) ha (by omega)) (by rw [List.length_map]; omega)) fun H1 e1 => ?_
  refine s_ret (v := .bl (decide ((w.length : Int) ≤ 40) && w.all fun c => decide (c ∈ al ++ al.map up))) (ev_andV (ev_le (ev_lenS (ev_var rfl) (by omega)) ev_c) fun _ => ?_) fun H2 e2 => k _ H2 (e1.trans e2) ?_
  · have hL : EvL (tLc (iStr (tVar 1)) (gName 3) tYes (tOp rInS1 (tVar 3) (tVar 2)) [3]) [some (vS al), some (vS w), some (vS (al ++ al.map up)), none] H1 (w.map fun c => V.bl (decide (c ∈ al ++ al.map up))) :=
      ev_lcS (f := fun c => V.bl (decide (c ∈ al ++ al.map up))) (ev_var rfl) (by omega) (fun x => rfl) fun c H2 hc e2 => ev_inS (ev_var rfl) (ev_var rfl)
    exact fun H2 e2 Q' q => hL H2 e2 (fun v H3 => rAll K [v] H3 Q') fun p H3 hp e3 h3 => ⟨p, w.map fun c => decide (c ∈ al ++ al.map up), rfl, sq_of (by rw [h3, List.map_map]; rfl), by rw [List.all_map]; exact q H3 e3⟩
  · show V.bl _ = V.bl (isW al w)
    unfold isW
    congr 2
    exact decide_eq_decide.mpr (by omega)
def inv (l : List Nat) : List Nat := l.reverse.map sw
def pInvWord : V → Hp → VP → Prop := fun x H R => ∃ l : List Nat, x = vS l ∧ Asc l ∧ l.length ≤ 1000 ∧ R = fun v _ => v = vS (inv l)
def sp_inverse_word (K : PySem.W.Frag) : Sp := spF1 pInvWord
def t_inverse_word (K : PySem.W.Frag) : TS := (tRet (tM0 xSwS (tRevS (tVar 0))))
theorem pure_inverse_word {K : PySem.W.Frag} {vs : List V} {H : Hp} {Q : VK} {E : XK} (h : sp_inverse_word K vs H Q E) : t_inverse_word K { nx := fun _ H' => Q .non H', rt := Q } (start ["word"] vs) H := by
  obtain ⟨x, R, rfl, ⟨l, rfl, ha, hl, rfl⟩, k⟩ := h
  exact s_ret (ev_swS (ev_revS (ev_var rfl) (by omega)) (fun c hc => ha c (List.mem_reverse.mp hc)) (by rw [List.length_reverse]; omega)) fun H1 e1 => k _ H1 e1 rfl
/-! ### the law's word, turned -/
def pLTurnedW : V → Hp → VP → Prop := fun x H R => ∃ l : List Nat, x = vS l ∧ (∀ c ∈ l, c < 128 ∧ isA c = true) ∧ l.length ≤ 1000 ∧ R = fun v _ => v = vS (inv l)
def sp_law_turned (K : PySem.W.Frag) : Sp := spF1 pLTurnedW
def t_law_turned (K : PySem.W.Frag) : TS := (tSeq (tAsg (tC (.str "")) (gName 1))
    (tSeq (tFor (iStr (tVar 0)) (gName 2) (tAsg (tOp xAddS (tOp (rIxL K) (tLst (tCons (tM0 xUpS (tVar 2)) (tCons (tM0 xLoS (tVar 2)) tNil))) (tCB xInt1 (tCons (tOp rEq (tVar 2) (tM0 xUpS (tVar 2))) tNil))) (tVar 1)) (gName 1)))
    (tRet (tVar 1))))
theorem sw_cases {c : Nat} (h : isA c = true) : (up c = c ∧ lo c = sw c) ∨ (up c ≠ c ∧ up c = sw c) := by
  unfold isA at h
  rw [Bool.or_eq_true, decide_eq_true_eq, decide_eq_true_eq] at h
  unfold up lo sw
  rcases h with h | h
  · left
    rw [if_neg (by omega), if_pos h]
    exact ⟨rfl, rfl⟩
  · right
    rw [if_pos h, if_neg (by omega)]
    exact ⟨by omega, rfl⟩
theorem pure_law_turned {K : PySem.W.Frag} {vs : List V} {H : Hp} {Q : VK} {E : XK} (h : sp_law_turned K vs H Q E) : t_law_turned K { nx := fun _ H' => Q .non H', rt := Q } (start ["word", "turned", "letter"] vs) H := by
  obtain ⟨x, R, rfl, ⟨l, rfl, ha, hl, rfl⟩, k⟩ := h
  refine q_asg (ev_cS (l := []) (by rfl)) fun H1 e1 => ?_
  refine q_forS (l := l) (ev_var rfl) (fun i σ H' => ∃ z, σ = [some (vS l), some (vS (inv (l.take i))), z] ∧ Ex H H') (fun H2 e2 => ⟨none, by rw [List.take_zero]; rfl, e1.trans e2⟩) ?_ ?_
  · rintro i c σ H' hi ⟨z, rfl, e2⟩
    obtain ⟨hc, hA⟩ := ha c (List.mem_of_getElem? hi)
    have hil : i < l.length := (List.getElem?_eq_some_iff.mp hi).1
    have ea : EvA (tCons (tM0 xUpS (tVar 2)) (tCons (tM0 xLoS (tVar 2)) tNil)) [some (vS l), some (vS (inv (l.take i))), some (vS [c])] H' [vS [up c], vS [lo c]] := ea_cons (ev_upS1 (ev_var rfl) hc) (ea_cons (ev_loS (ev_var rfl) hc) ea_nil)
    have eb : Ev (tCB xInt1 (tCons (tOp rEq (tVar 2) (tM0 xUpS (tVar 2))) tNil)) [some (vS l), some (vS (inv (l.take i))), some (vS [c])] H' (.int (if decide ([c] = [up c]) = true then 1 else 0)) :=
      ev_cb (ea_cons (ev_eqS (ev_var rfl) (ev_upS1 (ev_var rfl) hc)) ea_nil) fun H1 _ Q q => .inr ⟨_, rfl, q H1 (Ex.refl H1)⟩
    have hnext : inv (l.take (i + 1)) = sw c :: inv (l.take i) := by
      rw [List.take_add_one, hi]
      unfold inv
      simp
    have hlen : (inv (l.take i)).length ≤ 1000 := by unfold inv; rw [List.length_map, List.length_reverse, List.length_take]; omega
    have ep : Ev (tOp (rIxL K) (tLst (tCons (tM0 xUpS (tVar 2)) (tCons (tM0 xLoS (tVar 2)) tNil))) (tCB xInt1 (tCons (tOp rEq (tVar 2) (tM0 xUpS (tVar 2))) tNil))) [some (vS l), some (vS (inv (l.take i))), some (vS [c])] H' (vS [sw c]) := by
      rcases sw_cases hA with ⟨h1, h2⟩ | ⟨h1, h2⟩
      · rw [h1, decide_eq_true rfl, if_pos rfl] at eb
        exact ev_pickL (k := 1) ea (by show 2 ≤ 1000; omega) eb (by rw [← h2]; rfl)
      · rw [decide_eq_false (fun q => h1 (List.head_eq_of_cons_eq q).symm), if_neg (by decide)] at eb
        exact ev_pickL (k := 0) ea (by show 2 ≤ 1000; omega) eb (by rw [← h2]; rfl)
    refine s_asg (ev_addS ep (ev_var rfl) (by show 1 + _ ≤ 100000; omega)) fun H3 e3 => ⟨_, by rw [hnext]; rfl, e2.trans e3⟩
  · rintro σ H' ⟨z, rfl, e2⟩
    rw [List.take_length]
    exact s_ret (ev_var rfl) fun H3 e3 => k _ H3 (e2.trans e3) rfl
/-! ### the law's numbers -/
def NumsL (n : Nat) : VP := fun v H => ∃ l : List Int, l.length = n ∧ (∀ x ∈ l, 0 ≤ x ∧ x < 2147483648) ∧ IntsL l v H
def pNumbers44 (K : PySem.W.Frag) : V → V → Hp → VP → Prop := fun x y H R => ∃ (a : Addr) (ns : List Int) (n : Nat), x = .ref a ∧ SqL K H a (ns.map V.int) ∧ ns.length ≤ 63 ∧ y = .int (n : Int) ∧ n ≤ 1000 ∧ R = NumsL n
def sp_law_numbers44 (K : PySem.W.Frag) : Sp := spF2 (pNumbers44 K)
def t_law_numbers44 (K : PySem.W.Frag) : TS := (tSeq (tAsg (tLst tNil) (gName 2))
    (tSeq (tFor (iRng1 (tCons (tCB (rLenS K) (tCons (tVar 0) tNil)) tNil)) (gName 3) (tSeq (tAsg (tCB xAbs (tCons (tCB xInt1 (tCons (tOp (rIxL K) (tVar 0) (tVar 3)) tNil)) tNil)) (gName 6))
    (tIfS (tTest (tOp xGe (tVar 6) (tOp xPow (tC (.int 10)) (tC (.int 18))))) (tFor (iRng1 (tCons (tC (.int 60)) tNil)) (gName 7) (tIfS (tAnd (tTest (tOp xGt (tVar 6) (tC (.int 0)))) (tTest (tOp xLt (tCB (rLenS K) (tCons (tVar 2) tNil)) (tVar 1)))) (tSeq (tDrop (tBM K "list" rAppend (tVar 2) (tCons (tOp xMod (tVar 6) (tC (.int 10007))) tNil)))
    (tAsg (tOp xFdiv (tVar 6) (tC (.int 10007))) (gName 6))) tNext)) (tIfS (tTest (tOp xLt (tCB (rLenS K) (tCons (tVar 2) tNil)) (tVar 1))) (tSeq (tAsg (tOp xMod (tCB xInt1 (tCons (tOp xAdd (tOp xAdd (tOp xMul (tVar 6) (tC (.int 48271))) (tOp xMul (tVar 3) (tC (.int 69621)))) (tC (.int 11))) tNil)) (tC (.int 2147483647))) (gName 8))
    (tDrop (tBM K "list" rAppend (tVar 2) (tCons (tOp xFdiv (tOp xMod (tCB xInt1 (tCons (tOp xAdd (tOp xAdd (tOp xMul (tVar 8) (tC (.int 16807))) (tOp xMul (tC (.int 7)) (tVar 3))) (tC (.int 3))) tNil)) (tC (.int 2147483647))) (tC (.int 3))) tNil)))) tNext))))
    (tSeq (tAsg (tCB (rLenS K) (tCons (tVar 2) tNil)) (gName 4))
    (tSeq (tAsg (tOp xAdd (tC (.int 5381)) (tCB (rLenS K) (tCons (tVar 0) tNil))) (gName 5))
    (tSeq (tFor (iRng1 (tCons (tCB xMax2 (tCons (tC (.int 0)) (tCons (tOp xSub (tVar 1) (tVar 4)) tNil))) tNil)) (gName 3) (tSeq (tIfS (tTest (tOp xGt (tVar 4) (tC (.int 0)))) (tAsg (tOp xAdd (tVar 5) (tOp (rIxL K) (tVar 2) (tOp xMod (tVar 3) (tVar 4)))) (gName 5)) tNext)
    (tSeq (tAsg (tOp xMod (tCB xInt1 (tCons (tOp xAdd (tOp xMul (tVar 5) (tC (.int 48271))) (tVar 3)) tNil)) (tC (.int 2147483647))) (gName 5))
    (tDrop (tBM K "list" rAppend (tVar 2) (tCons (tOp xFdiv (tVar 5) (tC (.int 7))) tNil))))))
    (tRet (tSl (rSlL K) (tVar 2) tNoPart (tPart (tVar 1)))))))))
theorem pure_law_numbers44 {K : PySem.W.Frag} {vs : List V} {H : Hp} {Q : VK} {E : XK} (h : sp_law_numbers44 K vs H Q E) : t_law_numbers44 K { nx := fun _ H' => Q .non H', rt := Q } (start ["script", "many", "numbers", "k", "base", "last", "cell", "j", "mixed"] vs) H := by
  obtain ⟨x, y, R, rfl, ⟨a, ns, n, rfl, hs, hn63, rfl, hn, rfl⟩, k⟩ := h
  have snoc : ∀ {ns : List Int} {v : Int}, (∀ w ∈ ns, 0 ≤ w ∧ w < 2147483648) → 0 ≤ v ∧ v < 2147483648 → ∀ w ∈ ns ++ [v], 0 ≤ w ∧ w < 2147483648 := fun h1 h2 w hw => by
    rcases List.mem_append.mp hw with h | h
    · exact h1 w h
    · rw [List.mem_singleton.mp h]; exact h2
  refine q_asgL (el_lst ea_nil (by decide)) fun l H1 hl e1 h1 => ?_
  refine q_forR1 (n := (ns.length : Int)) (ea_cons (ev_is (ev_len (ev_var rfl) (ex_l e1 hs)) (by rw [List.length_map])) ea_nil) ⟨by omega, by omega⟩ (fun i σ H' => ∃ (z3 z6 z7 z8 : Option V) (q : List Int), σ = [some (.ref a), some (.int (n : Int)), some (.ref l), z3, none, none, z6, z7, z8] ∧ Ex H H' ∧ H' l = some (.lst (q.map V.int)) ∧ q.length ≤ n ∧ ∀ v ∈ q, 0 ≤ v ∧ v < 2147483648)
    (fun H2 e2 => ⟨none, none, none, none, [], rfl, e1.trans e2, e2 l _ h1, Nat.zero_le _, fun v h => by cases h⟩) ?_ ?_
  · rintro i σ H' hi ⟨z3, z6, z7, z8, q, rfl, e2, h2, hq, hqr⟩
    have hir : i < ns.length := by omega
    refine q_asg (v := .int (if ns.getD i 0 < 0 then -ns.getD i 0 else ns.getD i 0)) (ev_abs (ev_int1 (ev_ints (ev_var rfl) (ev_var rfl) rfl (ex_l e2 hs) hir))) fun H3 e3 => ?_
    have hc0 : 0 ≤ (if ns.getD i 0 < 0 then -ns.getD i 0 else ns.getD i 0) := by split <;> omega
    generalize (if ns.getD i 0 < 0 then -ns.getD i 0 else ns.getD i 0) = c at hc0 ⊢
    have lenq : ∀ {σ : L2.St} {H4 : Hp} {q : List Int}, σ[2]? = some (some (.ref l)) → H4 l = some (.lst (q.map V.int)) → Ev (tCB (rLenS K) (tCons (tVar 2) tNil)) σ H4 (.int (q.length : Int)) := fun g1 g2 => ev_is (ev_lenL (ev_var g1) (sq_of g2)) (by rw [List.length_map])
    refine s_if (et_test (ev_ge (ev_var rfl) (ev_pow ev_c ev_c ⟨by decide, by decide, by decide⟩))) (fun _ H4 e4 => ?_) (fun _ H4 e4 => ?_)
    · refine s_forR1 (n := 60) (ea_cons ev_c ea_nil) ⟨by decide, by decide⟩ (fun j σ H5 => ∃ (z7 : Option V) (c : Int) (q : List Int), σ = [some (.ref a), some (.int (n : Int)), some (.ref l), some (.int (i : Int)), none, none, some (.int c), z7, z8] ∧ 0 ≤ c ∧ Ex H H5 ∧ H5 l = some (.lst (q.map V.int)) ∧ q.length ≤ n ∧ ∀ v ∈ q, 0 ≤ v ∧ v < 2147483648)
        (fun H5 e5 => ⟨z7, c, q, rfl, hc0, e2.trans (e3.trans (e4.trans e5)), (e3.trans (e4.trans e5)) l _ h2, hq, hqr⟩) ?_ ?_
      · rintro j σ H5 hj ⟨z7', c', q', rfl, hc', e5, h5, hq', hqr'⟩
        refine s_when (b := decide ((0 : Int) < c') && decide ((q'.length : Int) < (n : Int))) (et_and (et_test (ev_gt (ev_var rfl) ev_c)) fun _ => et_test (ev_lt (lenq rfl h5) (ev_var rfl))) (fun hb H6 e6 => ?_) (fun hb H6 e6 => ⟨_, c', q', rfl, hc', e5.trans e6, e6 l _ h5, hq', hqr'⟩)
        rw [Bool.and_eq_true, decide_eq_true_eq, decide_eq_true_eq] at hb
        refine q_app (e6 l _ h5) (ev_var rfl) (ev_mod (ev_var rfl) ev_c (by decide)) (by rw [List.length_map]; omega) fun H7 e7 => ?_
        refine s_asg (ev_fdiv (ev_var rfl) ev_c ⟨by decide, by decide⟩) fun H8 e8 => ⟨_, c' / 10007, q' ++ [c' % 10007], rfl, by omega, (Ex.mut (e5.trans (e6.trans e7)) hl).trans e8, by rw [List.map_append]; exact e8 l _ upd_same, by rw [List.length_append]; show _ + 1 ≤ n; omega, snoc hqr' (by omega)⟩
      · rintro σ H5 ⟨z7', c', q', rfl, hc', e5, h5, hq', hqr'⟩
        exact ⟨_, _, _, _, q', rfl, e5, h5, hq', hqr'⟩
    · have h4 := (e3.trans e4) l _ h2
      refine s_when (b := decide ((q.length : Int) < (n : Int))) (et_test (ev_lt (lenq rfl h4) (ev_var rfl))) (fun hb H5 e5 => ?_) (fun hb H5 e5 => ⟨_, _, _, _, q, rfl, e2.trans (e3.trans (e4.trans e5)), e5 l _ h4, hq, hqr⟩)
      have hlt := of_decide_eq_true hb
      refine q_asg (ev_mod (ev_int1 (ev_add (ev_add (ev_mul (ev_var rfl) ev_c (.inr (by decide))) (ev_mul (ev_var rfl) ev_c (.inr (by decide)))) ev_c)) ev_c (by decide)) fun H6 e6 => ?_
      refine s_app ((e5.trans e6) l _ h4) (ev_var rfl) (ev_fdiv (ev_mod (ev_int1 (ev_add (ev_add (ev_mul (ev_var rfl) ev_c (.inr (by decide))) (ev_mul ev_c (ev_var rfl) (.inl (by decide)))) ev_c)) ev_c (by decide)) ev_c ⟨by decide, by decide⟩) (by rw [List.length_map]; omega) fun H7 e7 => ⟨_, _, _, _, q ++ [_], rfl, Ex.mut (e2.trans (e3.trans (e4.trans (e5.trans (e6.trans e7))))) hl, by rw [List.map_append]; exact upd_same, by rw [List.length_append]; show _ + 1 ≤ n; omega, snoc hqr (by omega)⟩
  · rintro σ H' ⟨z3, z6, z7, z8, q, rfl, e2, h2, hq, hqr⟩
    refine q_asg (v := .int (q.length : Int)) (ev_is (ev_lenL (ev_var rfl) (sq_of h2)) (by rw [List.length_map])) fun H3 e3 => ?_
    refine q_asg (v := .int (5381 + (ns.length : Int))) (ev_add ev_c (ev_is (ev_len (ev_var rfl) (ex_l (e2.trans e3) hs)) (by rw [List.length_map]))) fun H4 e4 => ?_
    have hmax : (if (n : Int) - (q.length : Int) > 0 then (n : Int) - (q.length : Int) else 0) = ((n - q.length : Nat) : Int) := by split <;> omega
    refine q_forR1 (n := ((n - q.length : Nat) : Int)) (ea_cons (ev_is (ev_max ev_c (ev_sub (ev_var rfl) (ev_var rfl))) (congrArg V.int hmax)) ea_nil) ⟨by omega, by omega⟩ (fun i σ H' => ∃ (z3 : Option V) (c : Int) (q2 : List Int), σ = [some (.ref a), some (.int (n : Int)), some (.ref l), z3, some (.int (q.length : Int)), some (.int c), z6, z7, z8] ∧ Ex H H' ∧ H' l = some (.lst (q2.map V.int)) ∧ q2.length = q.length + i ∧ ∀ v ∈ q2, 0 ≤ v ∧ v < 2147483648)
      (fun H5 e5 => ⟨_, _, q, rfl, e2.trans (e3.trans (e4.trans e5)), (e3.trans (e4.trans e5)) l _ h2, rfl, hqr⟩) ?_ ?_
    · rintro i σ H5 hi ⟨z3', c, q2, rfl, e5, h5, hq2, hqr2⟩
      have key : ∀ (c : Int) (H6 : Hp), Ex H5 H6 → (tSeq (tAsg (tOp xMod (tCB xInt1 (tCons (tOp xAdd (tOp xMul (tVar 5) (tC (.int 48271))) (tVar 3)) tNil)) (tC (.int 2147483647))) (gName 5))
          (tDrop (tBM K "list" rAppend (tVar 2) (tCons (tOp xFdiv (tVar 5) (tC (.int 7))) tNil))))
          { nx := fun σ H' => ∃ (z3 : Option V) (c : Int) (q2 : List Int), σ = [some (.ref a), some (.int (n : Int)), some (.ref l), z3, some (.int (q.length : Int)), some (.int c), z6, z7, z8] ∧ Ex H H' ∧ H' l = some (.lst (q2.map V.int)) ∧ q2.length = q.length + (i + 1) ∧ ∀ v ∈ q2, 0 ≤ v ∧ v < 2147483648, ct := fun σ H' => ∃ (z3 : Option V) (c : Int) (q2 : List Int), σ = [some (.ref a), some (.int (n : Int)), some (.ref l), z3, some (.int (q.length : Int)), some (.int c), z6, z7, z8] ∧ Ex H H' ∧ H' l = some (.lst (q2.map V.int)) ∧ q2.length = q.length + (i + 1) ∧ ∀ v ∈ q2, 0 ≤ v ∧ v < 2147483648, bk := fun σ H => tRet (tSl (rSlL K) (tVar 2) tNoPart (tPart (tVar 1))) { nx := fun _ H' => Q .non H', rt := Q } σ H, rt := Q }
          [some (.ref a), some (.int (n : Int)), some (.ref l), some (.int (i : Int)), some (.int (q.length : Int)), some (.int c), z6, z7, z8] H6 := by
        intro c H6 e6
        refine q_asg (ev_mod (ev_int1 (ev_add (ev_mul (ev_var rfl) ev_c (.inr (by decide))) (ev_var rfl))) ev_c (by decide)) fun H7 e7 => ?_
        refine s_app ((e6.trans e7) l _ h5) (ev_var rfl) (ev_fdiv (ev_var rfl) ev_c ⟨by decide, by decide⟩) (by rw [List.length_map]; omega) fun H8 e8 => ⟨_, _, q2 ++ [_], rfl, Ex.mut (e5.trans (e6.trans (e7.trans e8))) hl, by rw [List.map_append]; exact upd_same, by rw [List.length_append]; show _ + 1 = _; omega, snoc hqr2 (by omega)⟩
      refine q_when (b := decide ((0 : Int) < (q.length : Int))) (et_test (ev_gt (ev_var rfl) ev_c)) (fun hb H6 e6 => ?_) (fun hb H6 e6 => key c H6 e6)
      have hpos := of_decide_eq_true hb
      have him : i % q.length < q2.length := by have := Nat.mod_lt i (show 0 < q.length by omega); omega
      exact s_asg (ev_add (ev_var rfl) (ev_ints (i := i % q.length) (ev_var rfl) (ev_mod (ev_var rfl) (ev_var rfl) (by omega)) (Int.natCast_emod _ _).symm (sq_of (e6 l _ h5)) him)) fun H7 e7 => key _ H7 (e6.trans e7)
    · rintro σ H5 ⟨z3', c, q2, rfl, e5, h5, hq2, hqr2⟩
      rw [Int.toNat_natCast] at hq2
      have hfull : q2.length = n := by omega
      exact el_sl (ev_var rfl) eo_none (eo_some (ev_var rfl)) (sq_of h5) H5 (Ex.refl _) _ fun p H6 hp e6 h6 => k _ H6 (e5.trans e6) ⟨q2.take n, by rw [List.length_take]; omega, fun v hv => hqr2 v (List.mem_of_mem_take hv), p, rfl, by rw [h6, cut_map]⟩
end Sk

set_option Elab.async false
set_option linter.all false
set_option maxRecDepth 100000
set_option maxHeartbeats 1000000
namespace Sk
open PySem L2 Evl
/-! ### the law's word -/
def WordV (ls : List Nat) (n : Nat) : VP := fun v _ => ∃ w, v = vS w ∧ w.length = n ∧ ∀ c ∈ w, c ∈ ls
def pLWord : V → V → V → Hp → VP → Prop := fun x y z H R => ∃ (ls : List Nat) (l : List Int) (n : Nat), x = vS ls ∧ 0 < ls.length ∧ ls.length ≤ 1000 ∧ IntsL l y H ∧ 0 < l.length ∧ l.length ≤ 1000 ∧ (∀ x ∈ l, 0 ≤ x ∧ x < 2147483648) ∧ z = .int (n : Int) ∧ n ≤ 1000 ∧ R = WordV ls n
def sp_law_word (K : PySem.W.Frag) : Sp := spF3 pLWord
def t_law_word (K : PySem.W.Frag) : TS := (tSeq (tAsg (tC (.str "")) (gName 3))
    (tSeq (tFor (iRng1 (tCons (tVar 2) tNil)) (gName 4) (tAsg (tOp xAddS (tVar 3) (tOp rIxS (tVar 0) (tOp xMod (tOp xFdiv (tOp (rIxL K) (tVar 1) (tOp xMod (tCB xInt1 (tCons (tVar 4) tNil)) (tCB (rLenS K) (tCons (tVar 1) tNil)))) (tOp xAdd (tC (.int 1)) (tOp xFdiv (tVar 4) (tCB (rLenS K) (tCons (tVar 1) tNil))))) (tCB xLenS (tCons (tVar 0) tNil))))) (gName 3)))
    (tRet (tVar 3))))
theorem pure_law_word {K : PySem.W.Frag} {vs : List V} {H : Hp} {Q : VK} {E : XK} (h : sp_law_word K vs H Q E) : t_law_word K { nx := fun _ H' => Q .non H', rt := Q } (start ["letters", "numbers", "size", "word", "k"] vs) H := by
  obtain ⟨x, y, z, R, rfl, ⟨ls, l, n, rfl, hls, hls2, ⟨p, rfl, hp⟩, hl, hl2, hb, rfl, hn, rfl⟩, k⟩ := h
  refine q_asg (ev_cS (l := []) (by rfl)) fun H1 e1 => ?_
  refine q_forR1 (n := (n : Int)) (ea_cons (ev_var rfl) ea_nil) ⟨by omega, by omega⟩ (fun i σ H' => ∃ (w : List Nat) (z : Option V), σ = [some (vS ls), some (.ref p), some (.int (n : Int)), some (vS w), z] ∧ Ex H H' ∧ w.length = i ∧ ∀ c ∈ w, c ∈ ls) (fun H2 e2 => ⟨[], none, rfl, e1.trans e2, rfl, fun c h => by cases h⟩) ?_ ?_
  · rintro i σ H' hi ⟨w, z, rfl, e2, hw, hwc⟩
    have him : i % l.length < l.length := Nat.mod_lt _ hl
    have hll : ((l.map V.int).length : Int) = l.length := by rw [List.length_map]
    have lenl : Ev (tCB (rLenS K) (tCons (tVar 1) tNil)) [some (vS ls), some (.ref p), some (.int (n : Int)), some (vS w), some (.int (i : Int))] H' (.int (l.length : Int)) := ev_is (ev_lenL (ev_var rfl) (sq_of (e2 p _ hp))) (by rw [hll])
    have hv := hb _ (getD_mem him)
    have en := ev_ints (K := K) (i := i % l.length) (ev_var (σ := [some (vS ls), some (.ref p), some (.int (n : Int)), some (vS w), some (.int (i : Int))]) (H := H') (i := 1) rfl) (ev_mod (ev_int1 (ev_var (i := 4) rfl)) lenl (by omega)) (Int.natCast_emod _ _).symm (sq_of (e2 p _ hp)) him
    generalize l.getD (i % l.length) 0 = v at hv en
    have hd : (0 : Int) < 1 + (i : Int) / (l.length : Int) := by
      have : 0 ≤ (i : Int) / (l.length : Int) := Int.ediv_nonneg (by omega) (by omega)
      omega
    have hq0 : 0 ≤ v / (1 + (i : Int) / (l.length : Int)) := Int.ediv_nonneg hv.1 (by omega)
    have hdiv : (i : Int) / (l.length : Int) ≤ (i : Int) := Int.ediv_le_self _ (by omega)
    have ek := ev_mod (ev_fdiv en (ev_add (ev_c (v := .int 1)) (ev_fdiv (ev_var (i := 4) rfl) lenl ⟨by omega, by omega⟩)) ⟨by omega, by omega⟩) (ev_lenS (l := ls) (ev_var (i := 0) rfl) (by omega)) (by omega)
    have hk0 := Int.emod_nonneg (v / (1 + (i : Int) / (l.length : Int))) (show (ls.length : Int) ≠ 0 by omega)
    have hk1 := Int.emod_lt_of_pos (v / (1 + (i : Int) / (l.length : Int))) (show (0 : Int) < ls.length by omega)
    generalize v / (1 + (i : Int) / (l.length : Int)) % (ls.length : Int) = q at ek hk0 hk1
    obtain ⟨j, rfl⟩ : ∃ j : Nat, q = (j : Int) := ⟨q.toNat, by omega⟩
    have hj : j < ls.length := by omega
    refine s_asg (v := vS (w ++ [ls.getD j 0])) (ev_addS (ev_var rfl) (ev_atS (ev_var rfl) ek (by omega) (atI_n (getS hj))) (by show _ + 1 ≤ 100000; omega)) fun H3 e3 => ⟨w ++ [ls.getD j 0], _, rfl, e2.trans e3, by rw [List.length_append, hw]; rfl, fun c hc => ?_⟩
    rcases List.mem_append.mp hc with hc | hc
    · exact hwc c hc
    · rw [List.mem_singleton.mp hc, List.getD_eq_getElem?_getD, List.getElem?_eq_getElem hj]
      exact List.getElem_mem hj
  · rintro σ H' ⟨w, z, rfl, e2, hw, hwc⟩
    exact s_ret (ev_var rfl) fun H3 e3 => k _ H3 (e2.trans e3) ⟨w, rfl, by rw [hw]; omega, hwc⟩
theorem sw_sw {c : Nat} (h : isA c = true) : sw (sw c) = c := by
  unfold isA at h
  rw [Bool.or_eq_true, decide_eq_true_eq, decide_eq_true_eq] at h
  rcases h with h | h
  · have e : sw c = c + 32 := by unfold sw; rw [if_pos h]
    rw [e]
    unfold sw
    rw [if_neg (by omega), if_pos (by omega)]
    omega
  · have e : sw c = c - 32 := by unfold sw; rw [if_neg (by omega), if_pos h]
    rw [e]
    unfold sw
    rw [if_pos (by omega)]
    omega
theorem inv_inv {l : List Nat} (h : ∀ c ∈ l, isA c = true) : inv (inv l) = l := by
  unfold inv
  rw [← List.map_reverse, List.reverse_reverse, List.map_map]
  conv => rhs; rw [← List.map_id l]
  exact List.map_congr_left fun c hc => sw_sw (h c hc)
theorem sw_isA {c : Nat} (h : isA c = true) : isA (sw c) = true ∧ sw c < 128 := by
  unfold isA at h ⊢
  rw [Bool.or_eq_true, decide_eq_true_eq, decide_eq_true_eq] at h ⊢
  unfold sw
  rcases h with h | h
  · rw [if_pos h]; omega
  · rw [if_neg (by omega), if_pos h]; omega
end Sk

set_option Elab.async false
set_option linter.all false
set_option maxRecDepth 100000
set_option maxHeartbeats 1500000
namespace Sk
open PySem L2 Evl
section
variable {K : PySem.W.Frag} {σ : L2.St} {H : Hp} {te tf ta : TE}
theorem ev_isB {b : Bool} (h : Ev te σ H (.bl b)) : Ev (tCB (rIsi K) (tCons te (tCons (tC (.ty "bool")) tNil))) σ H (.bl true) :=
  ev_cb (ea_cons h (ea_cons ev_c ea_nil)) fun H1 _ Q q => ⟨.bl b, .ty "bool", .type "bool", .type "bool", true, rfl, .ty _, .base (by constructor), kit_ty (by decide +kernel), q H1 (Ex.refl _)⟩
theorem ev_isS {l : List Nat} (h : Ev te σ H (vS l)) : Ev (tCB (rIsi K) (tCons te (tCons (tC (.ty "str")) tNil))) σ H (.bl true) :=
  ev_cb (ea_cons h (ea_cons ev_c ea_nil)) fun H1 _ Q q => ⟨vS l, .ty "str", .type "str", .type "str", true, rfl, .ty _, .base (by constructor), kit_ty (by decide +kernel), q H1 (Ex.refl _)⟩
theorem ev_is_word {al w : List Nat} (h1 : Ev te σ H (vS al)) (h2 : Ev tf σ H (vS w)) (ha : Asc al) (hl : al.length ≤ 1000) (hw : w.length ≤ 1000) : Ev (tCall (sp_is_word K) [] E0 (tCons te (tCons tf tNil))) σ H (.bl (isW al w)) :=
  ev_er (er_call2 (R1 := fun v _ => v = vS al) (R2 := fun v _ => v = vS w) (er_is h1) monoC (er_is h2) monoC fun v w' H1 e1 g1 g2 => ⟨al, w, g1, g2, ha, hl, hw, rfl⟩)
theorem ev_invw {l : List Nat} (h : Ev te σ H (vS l)) (ha : Asc l) (hl : l.length ≤ 1000) : Ev (tCall (sp_inverse_word K) [] E0 (tCons te tNil)) σ H (vS (inv l)) :=
  ev_er (er_call1 (R1 := fun v _ => v = vS l) (er_is h) monoC fun v H1 e1 g => ⟨l, g, ha, hl, rfl⟩)
theorem ev_turnw {l : List Nat} (h : Ev te σ H (vS l)) (ha : ∀ c ∈ l, c < 128 ∧ isA c = true) (hl : l.length ≤ 1000) : Ev (tCall (sp_law_turned K) [] E0 (tCons te tNil)) σ H (vS (inv l)) :=
  ev_er (er_call1 (R1 := fun v _ => v = vS l) (er_is h) monoC fun v H1 e1 g => ⟨l, g, ha, hl, rfl⟩)
theorem ev_uptoS {l : List Nat} {j : Nat} (ha : Ev te σ H (vS l)) (h2 : Ev tf σ H (.int (j : Int))) (hj : j ≤ l.length) (hz : l.length ≤ 100000) : Ev (tSl rSlS te tNoPart (tPart tf)) σ H (vS (l.take j)) := by
  have := ev_slS ha eo_none (eo_some h2) hz
  rw [HT.sIx_none, HT.sIx_nat, Nat.min_eq_left hj] at this
  exact this
theorem ev_fromS {l : List Nat} {j : Nat} (ha : Ev te σ H (vS l)) (h2 : Ev tf σ H (.int (j : Int))) (hj : j ≤ l.length) (hz : l.length ≤ 100000) : Ev (tSl rSlS te (tPart tf) tNoPart) σ H (vS (l.drop j)) := by
  have := ev_slS ha (eo_some h2) eo_none hz
  rw [HT.sIx_none, HT.sIx_nat, Nat.min_eq_left hj, List.take_of_length_le (by rw [List.length_drop]; exact Nat.le_refl _)] at this
  exact this
theorem ev_neS {l m : List Nat} (ha : Ev te σ H (vS l)) (hb : Ev tf σ H (vS m)) : Ev (tOp rNe te tf) σ H (.bl (!decide (l = m))) := by
  have := ev_ne ha hb rfl
  rw [vS_dec] at this
  exact this
theorem ev_isBl {a b : Bool} (ha : Ev te σ H (.bl a)) (hb : Ev tf σ H (.bl b)) : Ev (tOp rIsB te tf) σ H (.bl (decide (a = b))) := ev_op ha hb fun H1 _ Q q => ⟨a, b, rfl, rfl, q H1 (Ex.refl H1)⟩
end
def alphs : List (List Nat) := [[97, 98], [97, 98, 99, 100], [97], [99, 100], [98, 99]]
def junk : List Nat := [49, 32, 120, 90, 45, 100, 95, 65, 69]
theorem inv_map {l : List Nat} (h : ∀ c ∈ l, isA c = true) : ∀ c ∈ inv l, isA c = true ∧ c < 128 := by
  intro c hc
  unfold inv at hc
  obtain ⟨d, hd, rfl⟩ := List.mem_map.mp hc
  exact sw_isA (h d (List.mem_reverse.mp hd))
theorem inv_len {l : List Nat} : (inv l).length = l.length := by unfold inv; rw [List.length_map, List.length_reverse]
/-! ### the law -/
def pLaw (K : PySem.W.Frag) : V → Hp → VP → Prop := fun x H R => ∃ (a : Addr) (ns : List Int), x = .ref a ∧ SqL K H a (ns.map V.int) ∧ ns.length ≤ 63 ∧ R = fun v _ => v = .bl true
def sp_law (K : PySem.W.Frag) : Sp := spF1 (pLaw K)
def t_law (K : PySem.W.Frag) : TS := (tSeq (tAsg (tCall (sp_law_numbers44 K) [] E0 (tCons (tVar 0) (tCons (tC (.int 60)) tNil))) (gName 1))
    (tSeq (tFor (iRng1 (tCons (tC (.int 4)) tNil)) (gName 2) (tSeq (tAsg (tOp (rIxL K) (tLst (tCons (tC (.str "ab")) (tCons (tC (.str "abcd")) (tCons (tC (.str "a")) (tCons (tC (.str "cd")) (tCons (tC (.str "bc")) tNil)))))) (tOp xMod (tOp (rIxL K) (tVar 1) (tVar 2)) (tC (.int 5)))) (gName 3))
    (tSeq (tAsg (tOp (rIxL K) (tLst (tCons (tOp xMod (tOp (rIxL K) (tVar 1) (tOp xAdd (tC (.int 4)) (tVar 2))) (tC (.int 12))) (tCons (tOp xAdd (tC (.int 38)) (tOp xMod (tOp (rIxL K) (tVar 1) (tOp xAdd (tC (.int 4)) (tVar 2))) (tC (.int 6)))) tNil))) (tCB xInt1 (tCons (tOp rEq (tOp xMod (tOp (rIxL K) (tVar 1) (tOp xAdd (tC (.int 8)) (tVar 2))) (tC (.int 5))) (tC (.int 0))) tNil))) (gName 4))
    (tSeq (tAsg (tCall (sp_law_word K) [] E0 (tCons (tOp xAddS (tVar 3) (tM0 xUpS (tVar 3))) (tCons (tSl (rSlL K) (tVar 1) (tPart (tOp xAdd (tC (.int 12)) (tOp xMul (tC (.int 3)) (tVar 2)))) (tPart (tOp xAdd (tC (.int 40)) (tOp xMul (tC (.int 3)) (tVar 2))))) (tCons (tVar 4) tNil)))) (gName 5))
    (tSeq (tIfS (tTest (tOp rEq (tOp xMod (tOp xFdiv (tOp (rIxL K) (tVar 1) (tOp xAdd (tC (.int 8)) (tVar 2))) (tC (.int 5))) (tC (.int 3))) (tC (.int 0)))) (tSeq (tAsg (tOp xMod (tOp xFdiv (tOp (rIxL K) (tVar 1) (tOp xAdd (tC (.int 4)) (tVar 2))) (tC (.int 12))) (tOp xAdd (tVar 4) (tC (.int 1)))) (gName 11))
    (tAsg (tOp xAddS (tOp xAddS (tSl rSlS (tVar 5) tNoPart (tPart (tVar 11))) (tOp rIxS (tC (.str "1 xZ-d_AE")) (tOp xMod (tOp xFdiv (tOp (rIxL K) (tVar 1) (tOp xAdd (tC (.int 4)) (tVar 2))) (tC (.int 7))) (tC (.int 9))))) (tSl rSlS (tVar 5) (tPart (tVar 11)) tNoPart)) (gName 5))) tNext)
    (tSeq (tAsg (tOp xLe (tCB xLenS (tCons (tVar 5) tNil)) (tC (.int 40))) (gName 6))
    (tSeq (tFor (iStr (tVar 5)) (gName 7) (tAsg (tAndV (tVar 6) (tOp rInS1 (tVar 7) (tOp xAddS (tVar 3) (tM0 xUpS (tVar 3))))) (gName 6)))
    (tSeq (tAsg (tCall (sp_is_word K) [] E0 (tCons (tVar 3) (tCons (tVar 5) tNil))) (gName 8))
    (tSeq (tIfS (tOr (tNot (tB (tCB (rIsi K) (tCons (tVar 8) (tCons (tC (.ty "bool")) tNil))))) (tTest (tOp rNe (tVar 8) (tVar 6)))) (tRet (tC (.bl false))) tNext)
    (tSeq (tAsg (tC (.str "")) (gName 9))
    (tSeq (tFor (iStr (tVar 5)) (gName 7) (tIfS (tB (tM0 xIsA (tVar 7))) (tAsg (tOp xAddS (tVar 9) (tVar 7)) (gName 9)) tNext))
    (tSeq (tAsg (tCall (sp_inverse_word K) [] E0 (tCons (tVar 9) tNil)) (gName 10))
    (tIfS (tOr (tNot (tB (tCB (rIsi K) (tCons (tVar 10) (tCons (tC (.ty "str")) tNil))))) (tOr (tTest (tOp rNe (tVar 10) (tCall (sp_law_turned K) [] E0 (tCons (tVar 9) tNil)))) (tTest (tOp rNe (tCall (sp_inverse_word K) [] E0 (tCons (tVar 10) tNil)) (tVar 9))))) (tRet (tC (.bl false))) tNext)))))))))))))
    (tRet (tAndV (tOp rEq (tC (.int 40)) (tC (.int 40))) (tAndV (tOp rIsB (tCall (sp_is_word K) [] E0 (tCons (tC (.str "ab")) (tCons (tC (.str "")) tNil))) (tC (.bl true))) (tOp rEq (tCall (sp_inverse_word K) [] E0 (tCons (tC (.str "")) tNil)) (tC (.str ""))))))))
theorem cutN {l : List Int} {i j : Nat} (hi : i ≤ j) (hj : j ≤ l.length) : cutV (l.map V.int) (some (i : Int)) (some (j : Int)) = ((l.drop i).take (j - i)).map V.int := by
  unfold cutV
  rw [List.length_map, HT.sIx_nat, HT.sIx_nat, Nat.min_eq_left hj, Nat.min_eq_left (Nat.le_trans hi hj), List.map_take, List.map_drop]
theorem pure_law {K : PySem.W.Frag} {vs : List V} {H : Hp} {Q : VK} {E : XK} (h : sp_law K vs H Q E) : t_law K { nx := fun _ H' => Q .non H', rt := Q } (start ["script", "numbers", "k", "alphabet", "size", "word", "due", "letter", "told", "letters", "turned", "at"] vs) H := by
  obtain ⟨x, R, rfl, ⟨a, ns, rfl, hs, hn, rfl⟩, k⟩ := h
  refine q_asgR (R := NumsL 60) (er_call2 (R1 := fun v _ => v = .ref a) (R2 := fun v _ => v = .int ((60 : Nat) : Int)) (er_is (ev_var rfl)) monoC (er_is ev_c) monoC fun v w H1 e1 g1 g2 => ⟨a, ns, 60, g1, ex_l e1 hs, hn, g2, by decide, rfl⟩) fun nv H1 e1 hnv => ?_
  obtain ⟨l, hl, hb, p, rfl, hp⟩ := hnv
  have hat : ∀ i, i < 60 → 0 ≤ l.getD i 0 ∧ l.getD i 0 < 2147483648 := fun i hi => hb _ (getD_mem (by omega))
  have num : ∀ {σ : L2.St} {H' : Hp} {te : TE} {kk : Int} (i : Nat), σ[1]? = some (some (.ref p)) → Ex H1 H' → Ev te σ H' (.int kk) → kk = (i : Int) → i < 60 → Ev (tOp (rIxL K) (tVar 1) te) σ H' (.int (l.getD i 0)) :=
    fun i h0 e h1 h2 h3 => ev_ints (ev_var h0) h1 h2 (sq_of (e p _ hp)) (by omega)
  refine q_forR1 (n := 4) (ea_cons ev_c ea_nil) ⟨by decide, by decide⟩ (fun i σ H' => ∃ z2 z3 z4 z5 z6 z7 z8 z9 z10 z11 : Option V, σ = [some (.ref a), some (.ref p), z2, z3, z4, z5, z6, z7, z8, z9, z10, z11] ∧ Ex H1 H') (fun H2 e2 => ⟨none, none, none, none, none, none, none, none, none, none, rfl, e2⟩) ?_ ?_
  · rintro i σ H' hi ⟨z2, z3, z4, z5, z6, z7, z8, z9, z10, z11, rfl, e2⟩
    have hi4 : i < 4 := by omega
    -- the alphabet
    have hA : EvA (tCons (tC (.str "ab")) (tCons (tC (.str "abcd")) (tCons (tC (.str "a")) (tCons (tC (.str "cd")) (tCons (tC (.str "bc")) tNil))))) [some (.ref a), some (.ref p), some (.int (i : Int)), z3, z4, z5, z6, z7, z8, z9, z10, z11] H' (alphs.map vS) :=
      ea_cons (ev_cS (by rfl)) (ea_cons (ev_cS (by rfl)) (ea_cons (ev_cS (by rfl)) (ea_cons (ev_cS (by rfl)) (ea_cons (ev_cS (by rfl)) ea_nil))))
    obtain ⟨q5, hq5, hq5e⟩ : ∃ q : Nat, q < 5 ∧ l.getD i 0 % 5 = (q : Int) := ⟨(l.getD i 0 % 5).toNat, by omega, by omega⟩
    have hqa : q5 < alphs.length := hq5
    have hal : alphs[q5] ∈ alphs := List.getElem_mem hqa
    refine q_asg (v := vS alphs[q5]) (ev_pickL hA (by decide) (ev_is (ev_mod (num i rfl e2 (ev_var rfl) rfl (by omega)) ev_c (by decide)) (congrArg V.int hq5e)) (by rw [List.getElem?_map, List.getElem?_eq_getElem hqa]; rfl)) fun H3 e3 => ?_
    have hwf : ∀ m ∈ alphs, (∀ c ∈ m, c < 128) ∧ m.length ≤ 4 ∧ 0 < m.length ∧ ∀ c ∈ m ++ m.map up, c < 128 ∧ isA c = true := by decide
    obtain ⟨hasc, hal4, hal0, hall⟩ := hwf _ hal
    generalize alphs[q5] = al at hasc hal4 hal0 hall
    -- its size
    have h4 := hat (4 + i) (by omega)
    have h8 := hat (8 + i) (by omega)
    have e23 := e2.trans e3
    have n4 : ∀ {σ : L2.St} {H' : Hp}, σ[1]? = some (some (.ref p)) → σ[2]? = some (some (.int (i : Int))) → Ex H1 H' → Ev (tOp (rIxL K) (tVar 1) (tOp xAdd (tC (.int 4)) (tVar 2))) σ H' (.int (l.getD (4 + i) 0)) := fun g1 g2 e => num (4 + i) g1 e (ev_add ev_c (ev_var g2)) (by omega) (by omega)
    have n8 : ∀ {σ : L2.St} {H' : Hp}, σ[1]? = some (some (.ref p)) → σ[2]? = some (some (.int (i : Int))) → Ex H1 H' → Ev (tOp (rIxL K) (tVar 1) (tOp xAdd (tC (.int 8)) (tVar 2))) σ H' (.int (l.getD (8 + i) 0)) := fun g1 g2 e => num (8 + i) g1 e (ev_add ev_c (ev_var g2)) (by omega) (by omega)
    have hsz : ∃ n : Nat, n ≤ 43 ∧ Ev (tOp (rIxL K) (tLst (tCons (tOp xMod (tOp (rIxL K) (tVar 1) (tOp xAdd (tC (.int 4)) (tVar 2))) (tC (.int 12))) (tCons (tOp xAdd (tC (.int 38)) (tOp xMod (tOp (rIxL K) (tVar 1) (tOp xAdd (tC (.int 4)) (tVar 2))) (tC (.int 6)))) tNil))) (tCB xInt1 (tCons (tOp rEq (tOp xMod (tOp (rIxL K) (tVar 1) (tOp xAdd (tC (.int 8)) (tVar 2))) (tC (.int 5))) (tC (.int 0))) tNil)))
        [some (.ref a), some (.ref p), some (.int (i : Int)), some (vS al), z4, z5, z6, z7, z8, z9, z10, z11] H3 (.int (n : Int)) := by
      have ea : EvA (tCons (tOp xMod (tOp (rIxL K) (tVar 1) (tOp xAdd (tC (.int 4)) (tVar 2))) (tC (.int 12))) (tCons (tOp xAdd (tC (.int 38)) (tOp xMod (tOp (rIxL K) (tVar 1) (tOp xAdd (tC (.int 4)) (tVar 2))) (tC (.int 6)))) tNil)) [some (.ref a), some (.ref p), some (.int (i : Int)), some (vS al), z4, z5, z6, z7, z8, z9, z10, z11] H3 [.int (l.getD (4 + i) 0 % 12), .int (38 + l.getD (4 + i) 0 % 6)] :=
        ea_cons (ev_mod (n4 rfl rfl e23) ev_c (by decide)) (ea_cons (ev_add ev_c (ev_mod (n4 rfl rfl e23) ev_c (by decide))) ea_nil)
      have eb : Ev (tCB xInt1 (tCons (tOp rEq (tOp xMod (tOp (rIxL K) (tVar 1) (tOp xAdd (tC (.int 8)) (tVar 2))) (tC (.int 5))) (tC (.int 0))) tNil)) [some (.ref a), some (.ref p), some (.int (i : Int)), some (vS al), z4, z5, z6, z7, z8, z9, z10, z11] H3 (.int (if decide (V.int (l.getD (8 + i) 0 % 5) = V.int 0) = true then 1 else 0)) :=
        ev_cb (ea_cons (ev_eq (ev_mod (n8 rfl rfl e23) ev_c (by decide)) ev_c rfl) ea_nil) fun H1 _ Q q => .inr ⟨_, rfl, q H1 (Ex.refl H1)⟩
      cases hd : decide (V.int (l.getD (8 + i) 0 % 5) = V.int 0)
      · rw [hd, if_neg (by decide)] at eb
        exact ⟨(l.getD (4 + i) 0 % 12).toNat, by omega, ev_is (ev_pickL (k := 0) ea (by show 2 ≤ 1000; omega) eb rfl) (congrArg V.int (by omega))⟩
      · rw [hd, if_pos rfl] at eb
        exact ⟨(38 + l.getD (4 + i) 0 % 6).toNat, by omega, ev_is (ev_pickL (k := 1) ea (by show 2 ≤ 1000; omega) eb rfl) (congrArg V.int (by omega))⟩
    obtain ⟨n, hn43, hsz⟩ := hsz
    refine q_asg hsz fun H4 e4 => ?_
    have e24 := e23.trans e4
    -- the word
    have esl : EvL (tSl (rSlL K) (tVar 1) (tPart (tOp xAdd (tC (.int 12)) (tOp xMul (tC (.int 3)) (tVar 2)))) (tPart (tOp xAdd (tC (.int 40)) (tOp xMul (tC (.int 3)) (tVar 2))))) [some (.ref a), some (.ref p), some (.int (i : Int)), some (vS al), some (.int (n : Int)), z5, z6, z7, z8, z9, z10, z11] H4 (((l.drop (12 + 3 * i)).take 28).map V.int) := by
      have := el_sl (K := K) (xs := l.map V.int) (ev_var (σ := [some (.ref a), some (.ref p), some (.int (i : Int)), some (vS al), some (.int (n : Int)), z5, z6, z7, z8, z9, z10, z11]) (H := H4) (i := 1) rfl) (eo_some (ev_is (ev_add (ev_c (v := .int 12)) (ev_mul (ev_c (v := .int 3)) (ev_var (i := 2) rfl) (.inl (by decide)))) (congrArg V.int (show (12 : Int) + 3 * (i : Int) = ((12 + 3 * i : Nat) : Int) by omega)))) (eo_some (ev_is (ev_add (ev_c (v := .int 40)) (ev_mul (ev_c (v := .int 3)) (ev_var (i := 2) rfl) (.inl (by decide)))) (congrArg V.int (show (40 : Int) + 3 * (i : Int) = ((40 + 3 * i : Nat) : Int) by omega)))) (sq_of (e24 p _ hp))
      rw [cutN (by omega) (by omega), show 40 + 3 * i - (12 + 3 * i) = 28 by omega] at this
      exact this
    have hsl : ((l.drop (12 + 3 * i)).take 28).length = 28 := by rw [List.length_take, List.length_drop]; omega
    refine q_asgR (R := WordV (al ++ al.map up) n) (er_call3 (R1 := fun v _ => v = vS (al ++ al.map up)) (R2 := IntsL ((l.drop (12 + 3 * i)).take 28)) (R3 := fun v _ => v = .int (n : Int)) (er_is (ev_addS (ev_var rfl) (ev_upS (ev_var rfl) hasc (by omega)) (by rw [List.length_map]; omega))) monoC
      (fun H5 e5 Q' q => esl H5 e5 Q' fun p2 H6 hp2 e6 h6 => q _ H6 e6 ⟨p2, rfl, h6⟩) (intsL _) (er_is (ev_var rfl)) monoC fun v w u H5 e5 g1 g2 g3 => ⟨al ++ al.map up, _, n, g1, by rw [List.length_append]; omega, by rw [List.length_append, List.length_map]; omega, g2, by rw [hsl]; decide, by rw [hsl]; decide, fun x hx => hb x (List.mem_of_mem_drop (List.mem_of_mem_take hx)), g3, by omega, rfl⟩) fun wv H5 e5 ⟨w, hwv, hwl, hwc⟩ => ?_
    subst hwv
    have e25 := e24.trans e5
    have hwasc : Asc w := fun c hc => (hall c (hwc c hc)).1
    have hwl44 : w.length ≤ 43 := by omega
    -- what follows, for any word
    have main : ∀ (w : List Nat) (z11 : Option V) (H6 : Hp), Ex H1 H6 → Asc w → w.length ≤ 44 → (tSeq (tAsg (tOp xLe (tCB xLenS (tCons (tVar 5) tNil)) (tC (.int 40))) (gName 6))
    (tSeq (tFor (iStr (tVar 5)) (gName 7) (tAsg (tAndV (tVar 6) (tOp rInS1 (tVar 7) (tOp xAddS (tVar 3) (tM0 xUpS (tVar 3))))) (gName 6)))
    (tSeq (tAsg (tCall (sp_is_word K) [] E0 (tCons (tVar 3) (tCons (tVar 5) tNil))) (gName 8))
    (tSeq (tIfS (tOr (tNot (tB (tCB (rIsi K) (tCons (tVar 8) (tCons (tC (.ty "bool")) tNil))))) (tTest (tOp rNe (tVar 8) (tVar 6)))) (tRet (tC (.bl false))) tNext)
    (tSeq (tAsg (tC (.str "")) (gName 9))
    (tSeq (tFor (iStr (tVar 5)) (gName 7) (tIfS (tB (tM0 xIsA (tVar 7))) (tAsg (tOp xAddS (tVar 9) (tVar 7)) (gName 9)) tNext))
    (tSeq (tAsg (tCall (sp_inverse_word K) [] E0 (tCons (tVar 9) tNil)) (gName 10))
    (tIfS (tOr (tNot (tB (tCB (rIsi K) (tCons (tVar 10) (tCons (tC (.ty "str")) tNil))))) (tOr (tTest (tOp rNe (tVar 10) (tCall (sp_law_turned K) [] E0 (tCons (tVar 9) tNil)))) (tTest (tOp rNe (tCall (sp_inverse_word K) [] E0 (tCons (tVar 10) tNil)) (tVar 9))))) (tRet (tC (.bl false))) tNext))))))))
        { nx := fun σ H' => ∃ z2 z3 z4 z5 z6 z7 z8 z9 z10 z11 : Option V, σ = [some (.ref a), some (.ref p), z2, z3, z4, z5, z6, z7, z8, z9, z10, z11] ∧ Ex H1 H', rt := Q, bk := fun σ H => (tRet (tAndV (tOp rEq (tC (.int 40)) (tC (.int 40))) (tAndV (tOp rIsB (tCall (sp_is_word K) [] E0 (tCons (tC (.str "ab")) (tCons (tC (.str "")) tNil))) (tC (.bl true))) (tOp rEq (tCall (sp_inverse_word K) [] E0 (tCons (tC (.str "")) tNil)) (tC (.str "")))))) { nx := fun _ H' => Q .non H', rt := Q } σ H, ct := fun σ H' => ∃ z2 z3 z4 z5 z6 z7 z8 z9 z10 z11 : Option V, σ = [some (.ref a), some (.ref p), z2, z3, z4, z5, z6, z7, z8, z9, z10, z11] ∧ Ex H1 H' }
        [some (.ref a), some (.ref p), some (.int (i : Int)), some (vS al), some (.int (n : Int)), some (vS w), z6, z7, z8, z9, z10, z11] H6 := by
      intro w z11 H6 e6 hwasc hwl
      refine q_asg (v := .bl (decide (w.length ≤ 40))) (ev_is (ev_le (ev_lenS (ev_var rfl) (by omega)) ev_c) (congrArg V.bl (decide_eq_decide.mpr (by omega)))) fun H7 e7 => ?_
      refine q_forS (l := w) (ev_var rfl) (fun m σ H' => ∃ z7 : Option V, σ = [some (.ref a), some (.ref p), some (.int (i : Int)), some (vS al), some (.int (n : Int)), some (vS w), some (.bl (decide (w.length ≤ 40) && (w.take m).all fun c => decide (c ∈ al ++ al.map up))), z7, z8, z9, z10, z11] ∧ Ex H1 H') (fun H8 e8 => ⟨z7, by rw [List.take_zero, List.all_nil, Bool.and_true]; rfl, e6.trans (e7.trans e8)⟩) ?_ ?_
      · rintro m c σ H8 hm ⟨z7', rfl, e8⟩
        refine s_asg (ev_andV (ev_var rfl) fun _ => ev_inS (ev_var rfl) (ev_addS (ev_var rfl) (ev_upS (ev_var rfl) hasc (by omega)) (by rw [List.length_map]; omega))) fun H9 e9 => ⟨_, by rw [List.take_add_one, hm, List.all_append, Option.toList_some, List.all_cons, List.all_nil, Bool.and_true, ← Bool.and_assoc]; rfl, e8.trans e9⟩
      rintro σ H8 ⟨z7', rfl, e8⟩
      rw [List.take_length]
      refine q_asg (v := .bl (isW al w)) (ev_is_word (ev_var rfl) (ev_var rfl) hasc (by omega) (by omega)) fun H9 e9 => ?_
      refine q_when (b := !true || false) (et_or (et_not (et_B (ev_isB (ev_var rfl)))) fun _ => et_test (ev_is (ev_ne (ev_var rfl) (ev_var rfl) rfl) (congrArg V.bl (by unfold isW; rw [decide_eq_true rfl] <;> rfl)))) (fun h => by cases h) fun _ H10 e10 => ?_
      refine q_asg (ev_cS (l := []) (by rfl)) fun H11 e11 => ?_
      have e811 := e8.trans (e9.trans (e10.trans e11))
      refine q_forS (l := w) (ev_var rfl) (fun m σ H' => ∃ z6 z7 z8 : Option V, σ = [some (.ref a), some (.ref p), some (.int (i : Int)), some (vS al), some (.int (n : Int)), some (vS w), z6, z7, z8, some (vS ((w.take m).filter isA)), z10, z11] ∧ Ex H1 H') (fun H12 e12 => ⟨_, _, _, by rw [List.take_zero]; rfl, e811.trans e12⟩) ?_ ?_
      · rintro m c σ H12 hm ⟨z6', z7', z8', rfl, e12⟩
        have hc := hwasc c (List.mem_of_getElem? hm)
        have hml : m < w.length := (List.getElem?_eq_some_iff.mp hm).1
        refine s_when (et_B (ev_isA (ev_var rfl) hc)) (fun hA H13 e13 => ?_) (fun hA H13 e13 => ⟨_, _, _, by rw [List.take_add_one, hm, List.filter_append, Option.toList_some, List.filter_cons_of_neg (by rw [hA]; decide), List.filter_nil, List.append_nil]; rfl, e12.trans e13⟩)
        have hlen : ((w.take m).filter isA).length ≤ w.length := Nat.le_trans (List.length_filter_le _ _) (by rw [List.length_take]; omega)
        exact s_asg (ev_addS (ev_var rfl) (ev_var rfl) (by show _ + 1 ≤ _; omega)) fun H14 e14 => ⟨_, _, _, by rw [List.take_add_one, hm, List.filter_append, Option.toList_some, List.filter_cons_of_pos hA, List.filter_nil]; rfl, e12.trans (e13.trans e14)⟩
      rintro σ H12 ⟨z6', z7', z8', rfl, e12⟩
      rw [List.take_length]
      have hfa : ∀ c ∈ w.filter isA, c < 128 ∧ isA c = true := fun c hc => by
        rw [List.mem_filter] at hc
        exact ⟨hwasc c hc.1, hc.2⟩
      have hfl : (w.filter isA).length ≤ 1000 := Nat.le_trans (List.length_filter_le _ _) (by omega)
      generalize w.filter isA = f at hfa hfl
      have hfA : ∀ c ∈ f, isA c = true := fun c hc => (hfa c hc).2
      refine q_asg (ev_invw (ev_var rfl) (fun c hc => (hfa c hc).1) hfl) fun H13 e13 => ?_
      refine s_when (b := !true || (false || false)) (et_or (et_not (et_B (ev_isS (ev_var rfl)))) fun _ => et_or (et_test (ev_is (ev_neS (ev_var rfl) (ev_turnw (ev_var rfl) hfa hfl)) (congrArg V.bl (by rw [decide_eq_true rfl] <;> rfl)))) fun _ => et_test (ev_is (ev_neS (ev_invw (ev_var rfl) (fun c hc => (inv_map hfA c hc).2) (by rw [inv_len]; exact hfl)) (ev_var rfl)) (congrArg V.bl (by rw [inv_inv hfA, decide_eq_true rfl] <;> rfl)))) (fun h => by cases h) fun _ H14 e14 => ⟨_, _, _, _, _, _, _, _, _, _, rfl, e12.trans (e13.trans e14)⟩
    refine q_when (et_test (ev_eq (ev_mod (ev_fdiv (n8 rfl rfl e25) ev_c ⟨by decide, by decide⟩) ev_c (by decide)) ev_c rfl)) (fun _ H6 e6 => ?_) (fun _ H6 e6 => main w z11 H6 (e25.trans e6) hwasc (by omega))
    have e26 := e25.trans e6
    obtain ⟨at', hat1, hat2⟩ : ∃ t : Nat, t ≤ n ∧ l.getD (4 + i) 0 / 12 % ((n : Int) + 1) = (t : Int) := by
      have h0 := Int.emod_nonneg (l.getD (4 + i) 0 / 12) (show (n : Int) + 1 ≠ 0 by omega)
      have h1 := Int.emod_lt_of_pos (l.getD (4 + i) 0 / 12) (show (0 : Int) < (n : Int) + 1 by omega)
      exact ⟨(l.getD (4 + i) 0 / 12 % ((n : Int) + 1)).toNat, by omega, by omega⟩
    refine q_asg (v := .int (at' : Int)) (ev_is (ev_mod (ev_fdiv (n4 rfl rfl e26) ev_c ⟨by decide, by decide⟩) (ev_add (ev_var rfl) ev_c) (by omega)) (congrArg V.int hat2)) fun H7 e7 => ?_
    obtain ⟨jq, hjq, hjqe⟩ : ∃ q : Nat, q < junk.length ∧ l.getD (4 + i) 0 / 7 % 9 = (q : Int) := ⟨(l.getD (4 + i) 0 / 7 % 9).toNat, by show _ < 9; omega, by omega⟩
    have hjm : junk.getD jq 0 < 128 := by
      have h1 : ∀ c ∈ junk, c < 128 := by decide
      rw [List.getD_eq_getElem?_getD, List.getElem?_eq_getElem hjq]
      exact h1 _ (List.getElem_mem hjq)
    have hat3 : at' ≤ w.length := by omega
    refine q_asg (v := vS (w.take at' ++ [junk.getD jq 0] ++ w.drop at')) (ev_addS (ev_addS (ev_uptoS (ev_var rfl) (ev_var rfl) hat3 (by omega)) (ev_atS (l := junk) (ev_cS (by rfl)) (ev_is (ev_mod (ev_fdiv (n4 rfl rfl (e26.trans e7)) ev_c ⟨by decide, by decide⟩) ev_c (by decide)) (congrArg V.int hjqe)) (by decide) (atI_n (getS hjq))) (by rw [List.length_take]; show _ + 1 ≤ _; omega)) (ev_fromS (ev_var rfl) (ev_var rfl) hat3 (by omega)) (by rw [List.length_append, List.length_take, List.length_drop]; show _ + 1 + _ ≤ _; omega)) fun H8 e8 => ?_
    refine main (w.take at' ++ [junk.getD jq 0] ++ w.drop at') _ H8 (e26.trans (e7.trans e8)) (fun c hc => ?_) (by rw [List.length_append, List.length_append, List.length_take, List.length_drop]; show _ + 1 + _ ≤ _; omega)
    rcases List.mem_append.mp hc with hc | hc
    · rcases List.mem_append.mp hc with hc | hc
      · exact hwasc c (List.mem_of_mem_take hc)
      · rw [List.mem_singleton.mp hc]; exact hjm
    · exact hwasc c (List.mem_of_mem_drop hc)
  · rintro σ H' ⟨z2, z3, z4, z5, z6, z7, z8, z9, z10, z11, rfl, e2⟩
    refine s_ret (v := .bl true) (ev_is (ev_andV (ev_eq ev_c ev_c rfl) fun _ => ev_andV (ev_isBl (ev_is_word (al := [97, 98]) (w := []) (ev_cS (by rfl)) (ev_cS (by rfl)) (fun c hc => by revert c; decide) (by decide) (by decide)) ev_c) fun _ => ev_eqS (ev_invw (l := []) (ev_cS (by rfl)) (fun c hc => by cases hc) (by decide)) (ev_cS (l := []) (by rfl))) (by decide +kernel)) fun H3 e3 => k _ _ (e1.trans (e2.trans e3)) rfl
end Sk

namespace Sk
open PySem PySem.Spec PyProof.Rows L2 Evl
def top (i : Nat) : Stmt := PySem.Challenge.pw_sandreckoner_k44_words.main.body.getD i (.Pass ⟨0, 0, 0, 0⟩)
section
variable {P : Program} {w : World} {K : PySem.W.Frag} {mg : Str → Option Value} {base : Heap}
abbrev s_is_word : Stmt := top 2
abbrev N_is_word : List Str := ["letters", "word", "signs", "sign"]
theorem sc_is_word : FnScope N_is_word ["letters", "word"] (defScope s_is_word) := ⟨rfl, rfl, rfl, by decide +kernel, rfl, by decide +kernel, by decide +kernel⟩
abbrev s_inverse_word : Stmt := top 3
abbrev N_inverse_word : List Str := ["word"]
theorem sc_inverse_word : FnScope N_inverse_word ["word"] (defScope s_inverse_word) := ⟨rfl, rfl, rfl, by decide +kernel, rfl, by decide +kernel, by decide +kernel⟩
abbrev s_law_numbers44 : Stmt := top 5
abbrev N_law_numbers44 : List Str := ["script", "many", "numbers", "k", "base", "last", "cell", "j", "mixed"]
theorem sc_law_numbers44 : FnScope N_law_numbers44 ["script", "many"] (defScope s_law_numbers44) := ⟨rfl, rfl, rfl, by decide +kernel, rfl, by decide +kernel, by decide +kernel⟩
abbrev s_law_word : Stmt := top 6
abbrev N_law_word : List Str := ["letters", "numbers", "size", "word", "k"]
theorem sc_law_word : FnScope N_law_word ["letters", "numbers", "size"] (defScope s_law_word) := ⟨rfl, rfl, rfl, by decide +kernel, rfl, by decide +kernel, by decide +kernel⟩
abbrev s_law_turned : Stmt := top 7
abbrev N_law_turned : List Str := ["word", "turned", "letter"]
theorem sc_law_turned : FnScope N_law_turned ["word"] (defScope s_law_turned) := ⟨rfl, rfl, rfl, by decide +kernel, rfl, by decide +kernel, by decide +kernel⟩
abbrev s_law : Stmt := top 8
abbrev N_law : List Str := ["script", "numbers", "k", "alphabet", "size", "word", "due", "letter", "told", "letters", "turned", "at"]
theorem sc_law : FnScope N_law ["script"] (defScope s_law) := ⟨rfl, rfl, rfl, by decide +kernel, rfl, by decide +kernel, by decide +kernel⟩
theorem ok_is_word {f : Addr} {fd : FuncData} {k : Nat} (D : DefAt K mg "is_word" s_is_word ["letters", "word"] f fd) (b_len : mg "len" = none) (b_all : mg "all" = none) {t_MAX_WORD : Tok} (m_MAX_WORD : mg "MAX_WORD" = some (.int 40 t_MAX_WORD)) : FnOk P w K mg base CX0 (k + 1) f fd ["letters", "word"] (sp_is_word K) := by
  have nd := sc_is_word.nd
  refine D.fn.ok sc_is_word (fun vs H Q E h => spF2.len h) (fun cdv A outer s H vs Q E hr h => ⟨t_is_word K, ?_, pure_is_word h⟩)
  exact (pss_cons (ps_set (i := 2) nd rfl (.inr rfl) (pe_op op_add_str (pv 0) (pe_upS (pv 0))))
      (pss_one (ps_ret (pe_and (pe_cmpR op_le (pe_callB call_len_str (by rfl) b_len PySem.boot_len (pa_cons (pv 1) pa_nil)) (pe_glob rfl m_MAX_WORD ⟨_, rfl⟩) (nomark _)) (pe_one (pe_callB (cr_all rfl) (by rfl) b_all (by decide +kernel) (pa_cons (pe_lc (own := [("sign", 3)]) (g := (gName 3)) (tt := tYes) (te := (tOp rInS1 (tVar 3) (tVar 2))) rfl nd (pi_str (pv 1)) (blkOk_by (own := [("sign", 3)]) (N := N_is_word) (sc := defScope s_is_word) (by decide +kernel)) (fun _ _ _ _ _ => (pg_name (i := 3) nd rfl (.inl rfl))) (fun _ _ _ _ _ => pts_nil) (fun _ _ _ _ _ => (pe_cmpR op_in_sign (pv 3) (pv 2) (by rfl)))) pa_nil)))))))
theorem ok_inverse_word {f : Addr} {fd : FuncData} {k : Nat} (D : DefAt K mg "inverse_word" s_inverse_word ["word"] f fd) : FnOk P w K mg base CX0 (k + 1) f fd ["word"] (sp_inverse_word K) := by
  have nd := sc_inverse_word.nd
  refine D.fn.ok sc_inverse_word (fun vs H Q E h => spF1.len h) (fun cdv A outer s H vs Q E hr h => ⟨t_inverse_word K, ?_, pure_inverse_word h⟩)
  exact (pss_one (ps_ret (pe_swS (pe_revS (pv 0)))))
theorem ok_law_numbers44 {f : Addr} {fd : FuncData} {k : Nat} (D : DefAt K mg "_law_numbers" s_law_numbers44 ["script", "many"] f fd) (b_range : mg "range" = none) (b_len : mg "len" = none) (b_abs : mg "abs" = none) (b_int : mg "int" = none) (b_max : mg "max" = none) : FnOk P w K mg base CX0 (k + 1) f fd ["script", "many"] (sp_law_numbers44 K) := by
  have nd := sc_law_numbers44.nd
  refine D.fn.ok sc_law_numbers44 (fun vs H Q E h => spF2.len h) (fun cdv A outer s H vs Q E hr h => ⟨t_law_numbers44 K, ?_, pure_law_numbers44 h⟩)
  exact (pss_cons (ps_set (i := 2) nd rfl (.inl rfl) (pe_lst pa_nil))
      (pss_cons (ps_for PassesOwn.never rfl (pi_range1 rfl b_range (pa_cons (pe_callB call_len_seq (by rfl) b_len PySem.boot_len (pa_cons (pv 0) pa_nil)) pa_nil)) (pg_name (i := 3) nd rfl (.inl rfl)) (pss_cons (ps_set (i := 6) nd rfl (.inl rfl) (pe_callB call_abs (by rfl) b_abs (by decide +kernel) (pa_cons (pe_callTy call_int1 (by rfl) b_int (by decide +kernel) (pa_cons (pe_ix ix_list (pv 0) (pv 3) (fun _ _ => rfl)) pa_nil)) pa_nil)))
      (pss_one (ps_if (pt_cmpR op_ge (pv 6) (pe_op op_pow pe_int pe_int) (nomark _)) (pss_one (ps_for PassesOwn.never rfl (pi_range1 rfl b_range (pa_cons pe_int pa_nil)) (pg_name (i := 7) nd rfl (.inl rfl)) (pss_one (ps_if (PW.pt (pw_and (pt_cmpR op_gt (pv 6) pe_int (nomark _)) (pw_and1 (pt_cmpR op_lt (pe_callB call_len_seq (by rfl) b_len PySem.boot_len (pa_cons (pv 2) pa_nil)) (pv 1) (nomark _))))) (pss_cons (ps_expr (pe_bm PySem.F.plainAttrs_list PySem.F.slot_list_append PySem.F.type_list_append mt_append (pv 2) (pa_cons (pe_op op_mod (pv 6) pe_int) pa_nil)))
      (pss_one (ps_set (i := 6) nd rfl (.inl rfl) (pe_op op_fdiv (pv 6) pe_int)))) pss_nil)))) (pss_one (ps_if (pt_cmpR op_lt (pe_callB call_len_seq (by rfl) b_len PySem.boot_len (pa_cons (pv 2) pa_nil)) (pv 1) (nomark _)) (pss_cons (ps_set (i := 8) nd rfl (.inl rfl) (pe_op op_mod (pe_callTy call_int1 (by rfl) b_int (by decide +kernel) (pa_cons (pe_op op_add (pe_op op_add (pe_op op_mul (pv 6) pe_int) (pe_op op_mul (pv 3) pe_int)) pe_int) pa_nil)) pe_int))
      (pss_one (ps_expr (pe_bm PySem.F.plainAttrs_list PySem.F.slot_list_append PySem.F.type_list_append mt_append (pv 2) (pa_cons (pe_op op_fdiv (pe_op op_mod (pe_callTy call_int1 (by rfl) b_int (by decide +kernel) (pa_cons (pe_op op_add (pe_op op_add (pe_op op_mul (pv 8) pe_int) (pe_op op_mul pe_int (pv 3))) pe_int) pa_nil)) pe_int) pe_int) pa_nil))))) pss_nil))))))
      (pss_cons (ps_set (i := 4) nd rfl (.inl rfl) (pe_callB call_len_seq (by rfl) b_len PySem.boot_len (pa_cons (pv 2) pa_nil)))
      (pss_cons (ps_set (i := 5) nd rfl (.inl rfl) (pe_op op_add pe_int (pe_callB call_len_seq (by rfl) b_len PySem.boot_len (pa_cons (pv 0) pa_nil))))
      (pss_cons (ps_for PassesOwn.never rfl (pi_range1 rfl b_range (pa_cons (pe_callB (call_max2 rfl) (by rfl) b_max (by decide +kernel) (pa_cons pe_int (pa_cons (pe_op op_sub (pv 1) (pv 4)) pa_nil))) pa_nil)) (pg_name (i := 3) nd rfl (.inl rfl)) (pss_cons (ps_if (pt_cmpR op_gt (pv 4) pe_int (nomark _)) (pss_one (ps_set (i := 5) nd rfl (.inl rfl) (pe_op op_add (pv 5) (pe_ix ix_list (pv 2) (pe_op op_mod (pv 3) (pv 4)) (fun _ _ => rfl))))) pss_nil)
      (pss_cons (ps_set (i := 5) nd rfl (.inl rfl) (pe_op op_mod (pe_callTy call_int1 (by rfl) b_int (by decide +kernel) (pa_cons (pe_op op_add (pe_op op_mul (pv 5) pe_int) (pv 3)) pa_nil)) pe_int))
      (pss_one (ps_expr (pe_bm PySem.F.plainAttrs_list PySem.F.slot_list_append PySem.F.type_list_append mt_append (pv 2) (pa_cons (pe_op op_fdiv (pv 5) pe_int) pa_nil)))))))
      (pss_one (ps_ret (pe_slice sl_list (pv 2) po_none (po_some (pv 1))))))))))
theorem ok_law_word {f : Addr} {fd : FuncData} {k : Nat} (D : DefAt K mg "_law_word" s_law_word ["letters", "numbers", "size"] f fd) (b_range : mg "range" = none) (b_int : mg "int" = none) (b_len : mg "len" = none) : FnOk P w K mg base CX0 (k + 1) f fd ["letters", "numbers", "size"] (sp_law_word K) := by
  have nd := sc_law_word.nd
  refine D.fn.ok sc_law_word (fun vs H Q E h => spF3.len h) (fun cdv A outer s H vs Q E hr h => ⟨t_law_word K, ?_, pure_law_word h⟩)
  exact (pss_cons (ps_set (i := 3) nd rfl (.inl rfl) pe_str)
      (pss_cons (ps_for PassesOwn.never rfl (pi_range1 rfl b_range (pa_cons (pv 2) pa_nil)) (pg_name (i := 4) nd rfl (.inl rfl)) (pss_one (ps_set (i := 3) nd rfl (.inl rfl) (pe_op op_add_str (pv 3) (pe_ix ix_str (pv 0) (pe_op op_mod (pe_op op_fdiv (pe_ix ix_list (pv 1) (pe_op op_mod (pe_callTy call_int1 (by rfl) b_int (by decide +kernel) (pa_cons (pv 4) pa_nil)) (pe_callB call_len_seq (by rfl) b_len PySem.boot_len (pa_cons (pv 1) pa_nil))) (fun _ _ => rfl)) (pe_op op_add pe_int (pe_op op_fdiv (pv 4) (pe_callB call_len_seq (by rfl) b_len PySem.boot_len (pa_cons (pv 1) pa_nil))))) (pe_callB call_len_str (by rfl) b_len PySem.boot_len (pa_cons (pv 0) pa_nil))) (fun _ _ => rfl))))))
      (pss_one (ps_ret (pv 3)))))
theorem ok_law_turned {f : Addr} {fd : FuncData} {k : Nat} (D : DefAt K mg "_law_turned" s_law_turned ["word"] f fd) (b_int : mg "int" = none) : FnOk P w K mg base CX0 (k + 1) f fd ["word"] (sp_law_turned K) := by
  have nd := sc_law_turned.nd
  refine D.fn.ok sc_law_turned (fun vs H Q E h => spF1.len h) (fun cdv A outer s H vs Q E hr h => ⟨t_law_turned K, ?_, pure_law_turned h⟩)
  exact (pss_cons (ps_set (i := 1) nd rfl (.inl rfl) pe_str)
      (pss_cons (ps_for PassesOwn.never rfl (pi_str (pv 0)) (pg_name (i := 2) nd rfl (.inl rfl)) (pss_one (ps_set (i := 1) nd rfl (.inl rfl) (pe_op op_add_str (pe_ix ix_list (pe_lst (pa_cons (pe_upS (pv 2)) (pa_cons (pe_loS (pv 2)) pa_nil))) (pe_callTy call_int1 (by rfl) b_int (by decide +kernel) (pa_cons (pe_cmpR op_eq (pv 2) (pe_upS (pv 2)) (nomark _)) pa_nil)) (fun _ _ => rfl)) (pv 1)))))
      (pss_one (ps_ret (pv 1)))))
theorem ok_law {f : Addr} {fd : FuncData} {k : Nat} (D : DefAt K mg "law" s_law ["script"] f fd) {f__law_numbers : Addr} {fd__law_numbers : FuncData} {k__law_numbers : Nat} (D__law_numbers : DefAt K mg "_law_numbers" s_law_numbers44 ["script", "many"] f__law_numbers fd__law_numbers) (G__law_numbers : FnOk P w K mg base CX0 k__law_numbers f__law_numbers fd__law_numbers ["script", "many"] (sp_law_numbers44 K)) (hk__law_numbers : k__law_numbers ≤ k) {f__law_word : Addr} {fd__law_word : FuncData} {k__law_word : Nat} (D__law_word : DefAt K mg "_law_word" s_law_word ["letters", "numbers", "size"] f__law_word fd__law_word) (G__law_word : FnOk P w K mg base CX0 k__law_word f__law_word fd__law_word ["letters", "numbers", "size"] (sp_law_word K)) (hk__law_word : k__law_word ≤ k) {f_is_word : Addr} {fd_is_word : FuncData} {k_is_word : Nat} (D_is_word : DefAt K mg "is_word" s_is_word ["letters", "word"] f_is_word fd_is_word) (G_is_word : FnOk P w K mg base CX0 k_is_word f_is_word fd_is_word ["letters", "word"] (sp_is_word K)) (hk_is_word : k_is_word ≤ k) {f_inverse_word : Addr} {fd_inverse_word : FuncData} {k_inverse_word : Nat} (D_inverse_word : DefAt K mg "inverse_word" s_inverse_word ["word"] f_inverse_word fd_inverse_word) (G_inverse_word : FnOk P w K mg base CX0 k_inverse_word f_inverse_word fd_inverse_word ["word"] (sp_inverse_word K)) (hk_inverse_word : k_inverse_word ≤ k) {f__law_turned : Addr} {fd__law_turned : FuncData} {k__law_turned : Nat} (D__law_turned : DefAt K mg "_law_turned" s_law_turned ["word"] f__law_turned fd__law_turned) (G__law_turned : FnOk P w K mg base CX0 k__law_turned f__law_turned fd__law_turned ["word"] (sp_law_turned K)) (hk__law_turned : k__law_turned ≤ k) (b_range : mg "range" = none) (b_int : mg "int" = none) (b_len : mg "len" = none) (b_isinstance : mg "isinstance" = none) (b_bool : mg "bool" = none) (b_str : mg "str" = none) {t_MAX_WORD : Tok} (m_MAX_WORD : mg "MAX_WORD" = some (.int 40 t_MAX_WORD)) : FnOk P w K mg base CX0 (k + 1) f fd ["script"] (sp_law K) := by
  have nd := sc_law.nd
  refine D.fn.ok sc_law (fun vs H Q E h => spF1.len h) (fun cdv A outer s H vs Q E hr h => ⟨t_law K, ?_, pure_law h⟩)
  exact (pss_cons (ps_set (i := 1) nd rfl (.inl rfl) (pe_call G__law_numbers (hr.mono hk__law_numbers) rfl D__law_numbers.m D__law_numbers.fn.kp D__law_numbers.b .nil pass0 (pa_cons (pv 0) (pa_cons pe_int pa_nil))))
      (pss_cons (ps_for PassesOwn.never rfl (pi_range1 rfl b_range (pa_cons pe_int pa_nil)) (pg_name (i := 2) nd rfl (.inl rfl)) (pss_cons (ps_set (i := 3) nd rfl (.inl rfl) (pe_ix ix_list (pe_lst (pa_cons pe_str (pa_cons pe_str (pa_cons pe_str (pa_cons pe_str (pa_cons pe_str pa_nil)))))) (pe_op op_mod (pe_ix ix_list (pv 1) (pv 2) (fun _ _ => rfl)) pe_int) (fun _ _ => rfl)))
      (pss_cons (ps_set (i := 4) nd rfl (.inl rfl) (pe_ix ix_list (pe_lst (pa_cons (pe_op op_mod (pe_ix ix_list (pv 1) (pe_op op_add pe_int (pv 2)) (fun _ _ => rfl)) pe_int) (pa_cons (pe_op op_add pe_int (pe_op op_mod (pe_ix ix_list (pv 1) (pe_op op_add pe_int (pv 2)) (fun _ _ => rfl)) pe_int)) pa_nil))) (pe_callTy call_int1 (by rfl) b_int (by decide +kernel) (pa_cons (pe_cmpR op_eq (pe_op op_mod (pe_ix ix_list (pv 1) (pe_op op_add pe_int (pv 2)) (fun _ _ => rfl)) pe_int) pe_int (nomark _)) pa_nil)) (fun _ _ => rfl)))
      (pss_cons (ps_set (i := 5) nd rfl (.inl rfl) (pe_call G__law_word (hr.mono hk__law_word) rfl D__law_word.m D__law_word.fn.kp D__law_word.b .nil pass0 (pa_cons (pe_op op_add_str (pv 3) (pe_upS (pv 3))) (pa_cons (pe_slice sl_list (pv 1) (po_some (pe_op op_add pe_int (pe_op op_mul pe_int (pv 2)))) (po_some (pe_op op_add pe_int (pe_op op_mul pe_int (pv 2))))) (pa_cons (pv 4) pa_nil)))))
      (pss_cons (ps_if (pt_cmpR op_eq (pe_op op_mod (pe_op op_fdiv (pe_ix ix_list (pv 1) (pe_op op_add pe_int (pv 2)) (fun _ _ => rfl)) pe_int) pe_int) pe_int (nomark _)) (pss_cons (ps_set (i := 11) nd rfl (.inl rfl) (pe_op op_mod (pe_op op_fdiv (pe_ix ix_list (pv 1) (pe_op op_add pe_int (pv 2)) (fun _ _ => rfl)) pe_int) (pe_op op_add (pv 4) pe_int)))
      (pss_one (ps_set (i := 5) nd rfl (.inl rfl) (pe_op op_add_str (pe_op op_add_str (pe_slice sl_str (pv 5) po_none (po_some (pv 11))) (pe_ix ix_str pe_str (pe_op op_mod (pe_op op_fdiv (pe_ix ix_list (pv 1) (pe_op op_add pe_int (pv 2)) (fun _ _ => rfl)) pe_int) pe_int) (fun _ _ => rfl))) (pe_slice sl_str (pv 5) (po_some (pv 11)) po_none))))) pss_nil)
      (pss_cons (ps_set (i := 6) nd rfl (.inl rfl) (pe_cmpR op_le (pe_callB call_len_str (by rfl) b_len PySem.boot_len (pa_cons (pv 5) pa_nil)) pe_int (nomark _)))
      (pss_cons (ps_for PassesOwn.never rfl (pi_str (pv 5)) (pg_name (i := 7) nd rfl (.inl rfl)) (pss_one (ps_set (i := 6) nd rfl (.inl rfl) (pe_and (pv 6) (pe_one (pe_cmpR op_in_sign (pv 7) (pe_op op_add_str (pv 3) (pe_upS (pv 3))) (by rfl)))))))
      (pss_cons (ps_set (i := 8) nd rfl (.inl rfl) (pe_call G_is_word (hr.mono hk_is_word) rfl D_is_word.m D_is_word.fn.kp D_is_word.b .nil pass0 (pa_cons (pv 3) (pa_cons (pv 5) pa_nil))))
      (pss_cons (ps_if (PW.pt (pw_or (pt_not (pt_val (pe_callB call_isi (by rfl) b_isinstance (by decide +kernel) (pa_cons (pv 8) (pa_cons (pe_bltn (by rfl) b_bool (by decide +kernel) rfl) pa_nil))))) (pw_or1 (pt_cmpR op_ne (pv 8) (pv 6) (nomark _))))) (pss_one (ps_ret pe_bl)) pss_nil)
      (pss_cons (ps_set (i := 9) nd rfl (.inl rfl) pe_str)
      (pss_cons (ps_for PassesOwn.never rfl (pi_str (pv 5)) (pg_name (i := 7) nd rfl (.inl rfl)) (pss_one (ps_if (pt_val (pe_isA (pv 7))) (pss_one (ps_set (i := 9) nd rfl (.inl rfl) (pe_op op_add_str (pv 9) (pv 7)))) pss_nil)))
      (pss_cons (ps_set (i := 10) nd rfl (.inl rfl) (pe_call G_inverse_word (hr.mono hk_inverse_word) rfl D_inverse_word.m D_inverse_word.fn.kp D_inverse_word.b .nil pass0 (pa_cons (pv 9) pa_nil)))
      (pss_one (ps_if (PW.pt (pw_or (pt_not (pt_val (pe_callB call_isi (by rfl) b_isinstance (by decide +kernel) (pa_cons (pv 10) (pa_cons (pe_bltn (by rfl) b_str (by decide +kernel) rfl) pa_nil))))) (pw_or (pt_cmpR op_ne (pv 10) (pe_call G__law_turned (hr.mono hk__law_turned) rfl D__law_turned.m D__law_turned.fn.kp D__law_turned.b .nil pass0 (pa_cons (pv 9) pa_nil)) (nomark _)) (pw_or1 (pt_cmpR op_ne (pe_call G_inverse_word (hr.mono hk_inverse_word) rfl D_inverse_word.m D_inverse_word.fn.kp D_inverse_word.b .nil pass0 (pa_cons (pv 10) pa_nil)) (pv 9) (nomark _)))))) (pss_one (ps_ret pe_bl)) pss_nil))))))))))))))
      (pss_one (ps_ret (pe_and (pe_cmpR op_eq (pe_glob rfl m_MAX_WORD ⟨_, rfl⟩) pe_int (nomark _)) (pe_and (pe_cmpR op_isBl (pe_call G_is_word (hr.mono hk_is_word) rfl D_is_word.m D_is_word.fn.kp D_is_word.b .nil pass0 (pa_cons pe_str (pa_cons pe_str pa_nil))) pe_bl (nomark _)) (pe_one (pe_cmpR op_eq (pe_call G_inverse_word (hr.mono hk_inverse_word) rfl D_inverse_word.m D_inverse_word.fn.kp D_inverse_word.b .nil pass0 (pa_cons pe_str pa_nil)) pe_str (nomark _)))))))))

end
theorem all_mk {l : PySem.W.OpenLaw} {w : World} {K : PySem.W.Frag} {h : Heap} {mg : Str → Option Value} {fa : Addr} {f_is_word : Addr} {od_is_word an_is_word : Option Addr} {sl_is_word : Array (Option Value)} {oc_is_word kV_is_word dc_is_word pm_is_word cd_is_word ct_is_word : Value} {f_inverse_word : Addr} {od_inverse_word an_inverse_word : Option Addr} {sl_inverse_word : Array (Option Value)} {oc_inverse_word kV_inverse_word dc_inverse_word pm_inverse_word cd_inverse_word ct_inverse_word : Value} {f_law_numbers44 : Addr} {od_law_numbers44 an_law_numbers44 : Option Addr} {sl_law_numbers44 : Array (Option Value)} {oc_law_numbers44 kV_law_numbers44 dc_law_numbers44 pm_law_numbers44 cd_law_numbers44 ct_law_numbers44 : Value} {f_law_word : Addr} {od_law_word an_law_word : Option Addr} {sl_law_word : Array (Option Value)} {oc_law_word kV_law_word dc_law_word pm_law_word cd_law_word ct_law_word : Value} {f_law_turned : Addr} {od_law_turned an_law_turned : Option Addr} {sl_law_turned : Array (Option Value)} {oc_law_turned kV_law_turned dc_law_turned pm_law_turned cd_law_turned ct_law_turned : Value} {f_law : Addr} {od_law an_law : Option Addr} {sl_law : Array (Option Value)} {oc_law kV_law dc_law pm_law cd_law ct_law : Value} {t_MAX_WORD : Tok} (X : K.In h) (G : h.Ns mainGlobals mg) (hfa : mg "law" = some (.ref fa))
    (a_is_word : PySem.W.nsIn K mainGlobals "is_word" = some (some (.ref f_is_word)))
    (l_is_word : K.lookup f_is_word = some ⟨oc_is_word, od_is_word, .func (PySem.W.fnOf "is_word" "is_word" (defArgs s_is_word) (defBody s_is_word) (defScope s_is_word) .none kV_is_word dc_is_word pm_is_word an_is_word cd_is_word ct_is_word), sl_is_word⟩)
    (c_is_word : PySem.W.codeIn K cd_is_word "is_word" = true)
    (k_is_word : PySem.W.keepIn K (.ref f_is_word) = true)
    (a_inverse_word : PySem.W.nsIn K mainGlobals "inverse_word" = some (some (.ref f_inverse_word)))
    (l_inverse_word : K.lookup f_inverse_word = some ⟨oc_inverse_word, od_inverse_word, .func (PySem.W.fnOf "inverse_word" "inverse_word" (defArgs s_inverse_word) (defBody s_inverse_word) (defScope s_inverse_word) .none kV_inverse_word dc_inverse_word pm_inverse_word an_inverse_word cd_inverse_word ct_inverse_word), sl_inverse_word⟩)
    (c_inverse_word : PySem.W.codeIn K cd_inverse_word "inverse_word" = true)
    (k_inverse_word : PySem.W.keepIn K (.ref f_inverse_word) = true)
    (a_law_numbers44 : PySem.W.nsIn K mainGlobals "_law_numbers" = some (some (.ref f_law_numbers44)))
    (l_law_numbers44 : K.lookup f_law_numbers44 = some ⟨oc_law_numbers44, od_law_numbers44, .func (PySem.W.fnOf "_law_numbers" "_law_numbers" (defArgs s_law_numbers44) (defBody s_law_numbers44) (defScope s_law_numbers44) .none kV_law_numbers44 dc_law_numbers44 pm_law_numbers44 an_law_numbers44 cd_law_numbers44 ct_law_numbers44), sl_law_numbers44⟩)
    (c_law_numbers44 : PySem.W.codeIn K cd_law_numbers44 "_law_numbers" = true)
    (k_law_numbers44 : PySem.W.keepIn K (.ref f_law_numbers44) = true)
    (a_law_word : PySem.W.nsIn K mainGlobals "_law_word" = some (some (.ref f_law_word)))
    (l_law_word : K.lookup f_law_word = some ⟨oc_law_word, od_law_word, .func (PySem.W.fnOf "_law_word" "_law_word" (defArgs s_law_word) (defBody s_law_word) (defScope s_law_word) .none kV_law_word dc_law_word pm_law_word an_law_word cd_law_word ct_law_word), sl_law_word⟩)
    (c_law_word : PySem.W.codeIn K cd_law_word "_law_word" = true)
    (k_law_word : PySem.W.keepIn K (.ref f_law_word) = true)
    (a_law_turned : PySem.W.nsIn K mainGlobals "_law_turned" = some (some (.ref f_law_turned)))
    (l_law_turned : K.lookup f_law_turned = some ⟨oc_law_turned, od_law_turned, .func (PySem.W.fnOf "_law_turned" "_law_turned" (defArgs s_law_turned) (defBody s_law_turned) (defScope s_law_turned) .none kV_law_turned dc_law_turned pm_law_turned an_law_turned cd_law_turned ct_law_turned), sl_law_turned⟩)
    (c_law_turned : PySem.W.codeIn K cd_law_turned "_law_turned" = true)
    (k_law_turned : PySem.W.keepIn K (.ref f_law_turned) = true)
    (a_law : PySem.W.nsIn K mainGlobals "law" = some (some (.ref f_law)))
    (l_law : K.lookup f_law = some ⟨oc_law, od_law, .func (PySem.W.fnOf "law" "law" (defArgs s_law) (defBody s_law) (defScope s_law) .none kV_law dc_law pm_law an_law cd_law ct_law), sl_law⟩)
    (c_law : PySem.W.codeIn K cd_law "law" = true)
    (k_law : PySem.W.keepIn K (.ref f_law) = true)
    (z_abs : PySem.W.nsIn K mainGlobals "abs" = some none)
    (z_all : PySem.W.nsIn K mainGlobals "all" = some none)
    (z_bool : PySem.W.nsIn K mainGlobals "bool" = some none)
    (z_int : PySem.W.nsIn K mainGlobals "int" = some none)
    (z_isinstance : PySem.W.nsIn K mainGlobals "isinstance" = some none)
    (z_len : PySem.W.nsIn K mainGlobals "len" = some none)
    (z_max : PySem.W.nsIn K mainGlobals "max" = some none)
    (z_range : PySem.W.nsIn K mainGlobals "range" = some none)
    (z_str : PySem.W.nsIn K mainGlobals "str" = some none)
    (w_MAX_WORD : PySem.W.nsIn K mainGlobals "MAX_WORD" = some (some (.int 40 t_MAX_WORD))) :
    ∃ fd : FuncData, (∀ (s : Shared) (v : Value), BindsTo s fd ⟨[v], []⟩ [("script", v)]) ∧ ∀ base : Heap, K.In base → base.Ns mainGlobals mg → FnOk l.prog w K mg base CX0 60 fa fd ["script"] (sp_law K) := by
  have e := hfa.symm.trans (PySem.W.mg_of X G a_law)
  cases e
  have F_is_word := fun_mk (st := s_is_word) l_is_word c_is_word k_is_word
  have D_is_word : DefAt K mg "is_word" s_is_word ["letters", "word"] _ _ := ⟨F_is_word, PySem.W.mg_of X G a_is_word, F_is_word.binds (ps := ["letters", "word"]) fun _ _ _ _ _ _ us hl => match us, hl with | [_, _], _ => rfl⟩
  have F_inverse_word := fun_mk (st := s_inverse_word) l_inverse_word c_inverse_word k_inverse_word
  have D_inverse_word : DefAt K mg "inverse_word" s_inverse_word ["word"] _ _ := ⟨F_inverse_word, PySem.W.mg_of X G a_inverse_word, F_inverse_word.binds (ps := ["word"]) fun _ _ _ _ _ _ us hl => match us, hl with | [_], _ => rfl⟩
  have F_law_numbers44 := fun_mk (st := s_law_numbers44) l_law_numbers44 c_law_numbers44 k_law_numbers44
  have D__law_numbers : DefAt K mg "_law_numbers" s_law_numbers44 ["script", "many"] _ _ := ⟨F_law_numbers44, PySem.W.mg_of X G a_law_numbers44, F_law_numbers44.binds (ps := ["script", "many"]) fun _ _ _ _ _ _ us hl => match us, hl with | [_, _], _ => rfl⟩
  have F_law_word := fun_mk (st := s_law_word) l_law_word c_law_word k_law_word
  have D__law_word : DefAt K mg "_law_word" s_law_word ["letters", "numbers", "size"] _ _ := ⟨F_law_word, PySem.W.mg_of X G a_law_word, F_law_word.binds (ps := ["letters", "numbers", "size"]) fun _ _ _ _ _ _ us hl => match us, hl with | [_, _, _], _ => rfl⟩
  have F_law_turned := fun_mk (st := s_law_turned) l_law_turned c_law_turned k_law_turned
  have D__law_turned : DefAt K mg "_law_turned" s_law_turned ["word"] _ _ := ⟨F_law_turned, PySem.W.mg_of X G a_law_turned, F_law_turned.binds (ps := ["word"]) fun _ _ _ _ _ _ us hl => match us, hl with | [_], _ => rfl⟩
  have F_law := fun_mk (st := s_law) l_law c_law k_law
  have D_law : DefAt K mg "law" s_law ["script"] _ _ := ⟨F_law, PySem.W.mg_of X G a_law, F_law.binds (ps := ["script"]) fun _ _ _ _ _ _ us hl => match us, hl with | [_], _ => rfl⟩
  have b_abs := PySem.W.mg_none_of X G z_abs
  have b_all := PySem.W.mg_none_of X G z_all
  have b_bool := PySem.W.mg_none_of X G z_bool
  have b_int := PySem.W.mg_none_of X G z_int
  have b_isinstance := PySem.W.mg_none_of X G z_isinstance
  have b_len := PySem.W.mg_none_of X G z_len
  have b_max := PySem.W.mg_none_of X G z_max
  have b_range := PySem.W.mg_none_of X G z_range
  have b_str := PySem.W.mg_none_of X G z_str
  have m_MAX_WORD := PySem.W.mg_of X G w_MAX_WORD
  refine ⟨PySem.W.fnOf "law" "law" (defArgs s_law) (defBody s_law) (defScope s_law) .none kV_law dc_law pm_law an_law cd_law ct_law, fun s v => .of_eq rfl, fun base _ _ => ?_⟩
  have G_is_word := ok_is_word (P := l.prog) (w := w) (base := base) (k := 0) D_is_word   b_len b_all m_MAX_WORD 
  have G_inverse_word := ok_inverse_word (P := l.prog) (w := w) (base := base) (k := 0) D_inverse_word     
  have G__law_numbers := ok_law_numbers44 (P := l.prog) (w := w) (base := base) (k := 0) D__law_numbers   b_range b_len b_abs b_int b_max  
  have G__law_word := ok_law_word (P := l.prog) (w := w) (base := base) (k := 0) D__law_word   b_range b_int b_len  
  have G__law_turned := ok_law_turned (P := l.prog) (w := w) (base := base) (k := 0) D__law_turned   b_int  
  have G_law := ok_law (P := l.prog) (w := w) (base := base) (k := 1) D_law  D__law_numbers G__law_numbers (by decide) D__law_word G__law_word (by decide) D_is_word G_is_word (by decide) D_inverse_word G_inverse_word (by decide) D__law_turned G__law_turned (by decide) b_range b_int b_len b_isinstance b_bool b_str m_MAX_WORD 
  exact G_law.mono (by decide)
theorem walk {l : PySem.W.OpenLaw} {q : Program} {loose : List Str} {XP : (Str → Option Value) → Heap → Prop} {YP : World → Heap → Prop} {d : DefRec} {K : Params → PySem.W.Frag} (hn : l.most = some 63) (hdf : d.params.defaults = [])
    (hY : ∀ (w : World) (h : Heap), YP w h → (K w.params).In h)
    (F : ∀ (w : World) (mg : Str → Option Value) (fa : Addr) (h : Heap), (K w.params).In h → h.Ns mainGlobals mg → mg d.name = some (.ref fa) →
      ∃ fd : FuncData, (∀ (s : Shared) (u : Value), BindsTo s fd ⟨[u], []⟩ [("script", u)]) ∧ ∀ base : Heap, (K w.params).In base → base.Ns mainGlobals mg → FnOk l.prog w (K w.params) mg base CX0 60 fa fd ["script"] (sp_law (K w.params))) :
    PySem.W.WalkO q loose XP YP l.row.toRowW d [] (fun f vs => PySem.call f vs) :=
  L2.walk_of (n := 63) (k := 60) (x := "script") (CX := fun _ => CX0) (sp := fun w => sp_law (K w.params)) hn (by decide) hdf ⟨rfl, by decide, by decide⟩ hY F (fun _ _ a ns hl _ hS => ⟨.ref a, _, rfl, ⟨a, ns, rfl, hS, hl, rfl⟩, fun _ _ _ z => z⟩) fun _ _ _ _ _ z => z
end Sk
open PySem PySem.W PyProof.Rows
set_option maxRecDepth 100000 in
set_option maxHeartbeats 0 in
theorem PySem.Challenge.cw_sandreckoner_k44_words_holds : PySem.Challenge.rw_sandreckoner_k44_words.Holds := by
  w_on; o_law; k_head; (case hw => w_witness2)
  k_fill
  refine Sk.walk (l := PySem.Challenge.rw_sandreckoner_k44_words) rfl rfl (fun w h Y => PySem.W.kIn_of Y) ?F
  case F =>
    intro w mg fa h KX G hmg
    refine' Sk.all_mk KX G hmg ?a_is_word ?l_is_word ?c_is_word ?k_is_word ?a_inverse_word ?l_inverse_word ?c_inverse_word ?k_inverse_word ?a_law_numbers44 ?l_law_numbers44 ?c_law_numbers44 ?k_law_numbers44 ?a_law_word ?l_law_word ?c_law_word ?k_law_word ?a_law_turned ?l_law_turned ?c_law_turned ?k_law_turned ?a_law ?l_law ?c_law ?k_law ?z_abs ?z_all ?z_bool ?z_int ?z_isinstance ?z_len ?z_max ?z_range ?z_str ?w_MAX_WORD
    (case a_is_word => k_is)
    (case l_is_word => k_is)
    (case c_is_word => k_is)
    (case k_is_word => k_is)
    (case a_inverse_word => k_is)
    (case l_inverse_word => k_is)
    (case c_inverse_word => k_is)
    (case k_inverse_word => k_is)
    (case a_law_numbers44 => k_is)
    (case l_law_numbers44 => k_is)
    (case c_law_numbers44 => k_is)
    (case k_law_numbers44 => k_is)
    (case a_law_word => k_is)
    (case l_law_word => k_is)
    (case c_law_word => k_is)
    (case k_law_word => k_is)
    (case a_law_turned => k_is)
    (case l_law_turned => k_is)
    (case c_law_turned => k_is)
    (case k_law_turned => k_is)
    (case a_law => k_is)
    (case l_law => k_is)
    (case c_law => k_is)
    (case k_law => k_is)
    (case z_abs => k_is)
    (case z_all => k_is)
    (case z_bool => k_is)
    (case z_int => k_is)
    (case z_isinstance => k_is)
    (case z_len => k_is)
    (case z_max => k_is)
    (case z_range => k_is)
    (case z_str => k_is)
    (case w_MAX_WORD => k_is)
