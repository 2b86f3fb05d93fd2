import PyProof.Rows.All
import Wide.All
import OpenK.AllK
import Wide.FinOn
import HandS.ForMost
import HandS.Evl
import HandS.Style
import HandS.Conv
import HandS.WideBits
import HandS.ForExc
import HandS.IsInst
import HandS.ExcIs
import HandS.Strs
import HandS.Deep
import KE.KExcIs
import HandS.Defaults
import HandS.Zip
import HandS.Walk
import HandS.Flow
import HandS.TupAny
import HandS.More
import PyProof.Rows.SortShellAny
import HandS.ExcInit
import HandS.ClsMeth
import HandS.HotCalls
import HandS.ExcCtx
import HandS.TryOnly
import PySem.Challenge.RW_sandreckoner_k16_remainders_of_great_num
set_option Elab.async false
set_option linter.all false
set_option maxRecDepth 100000
set_option maxHeartbeats 4000000
set_option Elab.async false
set_option linter.all false
set_option maxRecDepth 100000
set_option maxHeartbeats 2000000
namespace Sk
open PySem L2 Evl

abbrev VP := V → Hp → Prop
/-- an expression that evaluates to something of R, the heap growing -/
def ER (te : TE) (σ : L2.St) (H : Hp) (R : VP) : Prop := ∀ H1, Ex H H1 → ∀ Q : VK, (∀ v H2, Ex H1 H2 → R v H2 → Q v H2) → te σ H1 Q
def EA (ta : TA) (σ : L2.St) (H : Hp) (R : List V → Hp → Prop) : Prop := ∀ H1, Ex H H1 → ∀ Q : List V → Hp → Prop, (∀ v H2, Ex H1 H2 → R v H2 → Q v H2) → ta σ H1 Q
/-- a call's promise: handed vs it gives something of R -/
def SR (sp : Sp) (vs : List V) (H : Hp) (R : VP) : Prop := ∀ (Q : VK) (E : XK), (∀ v H2, Ex H H2 → R v H2 → Q v H2) → sp vs H Q E
def Mono (R : VP) : Prop := ∀ v H H', Ex H H' → R v H → R v H'
def MonoL (R : List V → Hp → Prop) : Prop := ∀ v H H', Ex H H' → R v H → R v H'

section
variable {K : PySem.W.Frag} {σ : L2.St} {H H' : Hp} {te tl : TE} {ta tr : TA} {v : V} {R R' : VP} {D : Ends} {tz : TS} {i : Nat}
theorem ER.imp (h : ER te σ H R) (k : ∀ v H2, Ex H H2 → R v H2 → R' v H2) : ER te σ H R' := fun H1 e Q q => h H1 e Q fun v H2 e2 r => q v H2 e2 (k v H2 (e.trans e2) r)
theorem ER.mono (e : Ex H H') (h : ER te σ H R) : ER te σ H' R := fun H1 e1 Q q => h H1 (e.trans e1) Q q
theorem er_ev (h : Ev te σ H v) (hR : ∀ H1, Ex H H1 → R v H1) : ER te σ H R := fun H1 e Q q => h H1 e Q fun H2 e2 => q v H2 e2 (hR H2 (e.trans e2))
theorem er_is (h : Ev te σ H v) : ER te σ H (fun w _ => w = v) := er_ev h fun _ _ => rfl
theorem ev_er (h : ER te σ H (fun w _ => w = v)) : Ev te σ H v := fun H1 e Q q => h H1 e Q fun w H2 e2 r => by subst r; exact q H2 e2
theorem ev_of_er {w : V} (h : ER te σ H R) (k : ∀ v H2, Ex H H2 → R v H2 → v = w) : Ev te σ H w := ev_er (h.imp fun v H2 e r => k v H2 e r)
theorem er_var (h : σ[i]? = some (some v)) (hR : ∀ H1, Ex H H1 → R v H1) : ER (tVar i) σ H R := er_ev (ev_var h) hR
theorem ea_nil' : EA tNil σ H (fun vs _ => vs = []) := fun H1 _ Q q => q [] H1 (Ex.refl H1) rfl
theorem ea_cons' {R1 : VP} {R2 : List V → Hp → Prop} (h : ER te σ H R1) (m : Mono R1) (hr : EA tr σ H R2) : EA (tCons te tr) σ H (fun vs H2 => ∃ v r, vs = v :: r ∧ R1 v H2 ∧ R2 r H2) := fun H1 e Q q =>
  h H1 e _ fun v H2 e2 r1 => hr H2 (e.trans e2) _ fun r H3 e3 r2 => q _ H3 (e2.trans e3) ⟨v, r, rfl, m v H2 H3 e3 r1, r2⟩
theorem ea_imp {R1 R2 : List V → Hp → Prop} (h : EA ta σ H R1) (k : ∀ v H2, Ex H H2 → R1 v H2 → R2 v H2) : EA ta σ H R2 := fun H1 e Q q => h H1 e Q fun v H2 e2 r => q v H2 e2 (k v H2 (e.trans e2) r)
theorem ea_ev {vs : List V} (h : EvA ta σ H vs) : EA ta σ H (fun ws _ => ws = vs) := fun H1 e Q q => h H1 e Q fun H2 e2 => q vs H2 e2 rfl
theorem ea_one (h : ER te σ H R) (m : Mono R) : EA (tCons te tNil) σ H (fun vs H2 => ∃ v, vs = [v] ∧ R v H2) := ea_imp (ea_cons' h m ea_nil') fun vs H2 _ ⟨v, r, e1, r1, e2⟩ => ⟨v, by rw [e1, e2], r1⟩
theorem ea_two {te' : TE} (h : ER te σ H R) (m : Mono R) (h' : ER te' σ H R') (m' : Mono R') : EA (tCons te (tCons te' tNil)) σ H (fun vs H2 => ∃ v w, vs = [v, w] ∧ R v H2 ∧ R' w H2) :=
  ea_imp (ea_cons' h m (ea_one h' m')) fun vs H2 _ ⟨v, r, e1, r1, w, e2, r2⟩ => ⟨v, w, by rw [e1, e2], r1, r2⟩
theorem ea_three {te' te'' : TE} {R'' : VP} (h : ER te σ H R) (m : Mono R) (h' : ER te' σ H R') (m' : Mono R') (h'' : ER te'' σ H R'') (m'' : Mono R'') : EA (tCons te (tCons te' (tCons te'' tNil))) σ H (fun vs H2 => ∃ v w z, vs = [v, w, z] ∧ R v H2 ∧ R' w H2 ∧ R'' z H2) :=
  ea_imp (ea_cons' h m (ea_two h' m' h'' m'')) fun vs H2 _ ⟨v, r, e1, r1, w, z, e2, r2, r3⟩ => ⟨v, w, z, by rw [e1, e2], r1, r2, r3⟩
theorem er_call {sp : Sp} {E : XK} {RA : List V → Hp → Prop} (h : EA ta σ H RA) (k : ∀ vs H1, Ex H H1 → RA vs H1 → SR sp vs H1 R) : ER (tCall sp [] E ta) σ H R := fun H1 e Q q =>
  h H1 e _ fun vs H2 e2 r => by
    show sp (vs ++ []) H2 Q E
    rw [List.append_nil]
    exact k vs H2 (e.trans e2) r Q E fun v H3 e3 rv => q v H3 (e2.trans e3) rv
theorem er_callS {sp : Sp} {E : L2.St → XK} {RA : List V → Hp → Prop} (h : EA ta σ H RA) (k : ∀ vs H1, Ex H H1 → RA vs H1 → SR sp vs H1 R) : ER (tCallS sp E ta) σ H R := fun H1 e Q q =>
  h H1 e _ fun vs H2 e2 r => k vs H2 (e.trans e2) r Q (E σ) fun v H3 e3 rv => q v H3 (e2.trans e3) rv
/-- a tuple is made -/
theorem er_tup {RA : List V → Hp → Prop} (h : EA ta σ H RA) (m : MonoL RA) (hz : ∀ vs H2, RA vs H2 → vs.length ≤ 100000) : ER (tTup ta) σ H (fun v H2 => ∃ p vs, v = .ref p ∧ H2 p = some (.tup vs) ∧ RA vs H2) := fun H1 e Q q =>
  h H1 e _ fun vs H2 e2 r => ⟨sz_of (hz vs H2 r), fun p hp => q _ _ (e2.trans (Ex.new hp)) ⟨p, vs, rfl, upd_same, m vs H2 _ (Ex.new hp) r⟩⟩
theorem er_lst {RA : List V → Hp → Prop} (h : EA ta σ H RA) (m : MonoL RA) (hz : ∀ vs H2, RA vs H2 → vs.length ≤ 100000) : ER (tLst ta) σ H (fun v H2 => ∃ p vs, v = .ref p ∧ H p = none ∧ H2 p = some (.lst vs) ∧ RA vs H2) := fun H1 e Q q =>
  h H1 e _ fun vs H2 e2 r => ⟨sz_of (hz vs H2 r), fun p hp => q _ _ (e2.trans (Ex.new hp)) ⟨p, vs, rfl, fresh_back e (fresh_back e2 hp), upd_same, m vs H2 _ (Ex.new hp) r⟩⟩
/-- statements -/
theorem s_asgR (h : ER te σ H R) (k : ∀ v H1, Ex H H1 → R v H1 → D.nx (σ.set i (some v)) H1) : tAsg te (gName i) D σ H := h H (Ex.refl H) _ fun v H1 e r => k v H1 e r
theorem q_asgR (h : ER te σ H R) (k : ∀ v H1, Ex H H1 → R v H1 → tz D (σ.set i (some v)) H1) : tSeq (tAsg te (gName i)) tz D σ H := s_asgR (D := { D with nx := tz D }) h k
theorem s_retR (h : ER te σ H R) (k : ∀ v H1, Ex H H1 → R v H1 → D.rt v H1) : tRet te D σ H := h H (Ex.refl H) _ fun v H1 e r => k v H1 e r
theorem s_dropR (h : ER te σ H R) (k : ∀ v H1, Ex H H1 → R v H1 → D.nx σ H1) : tDrop te D σ H := h H (Ex.refl H) _ fun v H1 e r => k v H1 e r
theorem q_dropR (h : ER te σ H R) (k : ∀ v H1, Ex H H1 → R v H1 → tz D σ H1) : tSeq (tDrop te) tz D σ H := s_dropR (D := { D with nx := tz D }) h k
/-- xs.append(e), e of R -/
theorem s_appR {l : Addr} {xs : List V} (hl : H l = some (.lst xs)) (hv : Ev tl σ H (.ref l)) (h : ER te σ H R) (hz : xs.length < 100000) (k : ∀ v H1, Ex H H1 → R v H1 → D.nx σ (upd H1 l (.lst (xs ++ [v])))) :
    tDrop (tBM K "list" rAppend tl (tCons te tNil)) D σ H := hv H (Ex.refl H) _ fun H1 e1 =>
  ⟨Or.inl ⟨rfl, xs, sq_of (e1 l _ hl)⟩, h H1 e1 _ fun v H2 e2 r => ⟨l, xs, v, rfl, rfl, e2 l _ (e1 l _ hl), sz_lt hz, k v H2 (e1.trans e2) r⟩⟩
theorem q_appR {l : Addr} {xs : List V} (hl : H l = some (.lst xs)) (hv : Ev tl σ H (.ref l)) (h : ER te σ H R) (hz : xs.length < 100000) (k : ∀ v H1, Ex H H1 → R v H1 → tz D σ (upd H1 l (.lst (xs ++ [v])))) :
    tSeq (tDrop (tBM K "list" rAppend tl (tCons te tNil))) tz D σ H := s_appR (D := { D with nx := tz D }) hl hv h hz k
/-- (u, w) unpacked into two names -/
theorem g_pair {a : Addr} {u w : V} {i j : Nat} {Q : L2.St → Hp → Prop} (h : SqT K H a [u, w]) (q : Q ((σ.set i (some u)).set j (some w)) H) : gTup K 2 (gCons (gName i) (gCons (gName j) gNil)) (.ref a) σ H Q :=
  ⟨a, [u, w], rfl, h, rfl, u, [w], rfl, w, [], rfl, rfl, q⟩
theorem g_trip {a : Addr} {u w z : V} {i j l : Nat} {Q : L2.St → Hp → Prop} (h : SqT K H a [u, w, z]) (q : Q (((σ.set i (some u)).set j (some w)).set l (some z)) H) : gTup K 3 (gCons (gName i) (gCons (gName j) (gCons (gName l) gNil))) (.ref a) σ H Q :=
  ⟨a, [u, w, z], rfl, h, rfl, u, [w, z], rfl, w, [z], rfl, z, [], rfl, rfl, q⟩
/-- unpacking as a statement: a, b = e -/
theorem q_unpack2 {j : Nat} (h : ER te σ H R) (hR : ∀ v H1, Ex H H1 → R v H1 → ∃ a x y, v = .ref a ∧ SqT K H1 a [x, y] ∧ tz D ((σ.set i (some x)).set j (some y)) H1) :
    tSeq (tAsg te (gTup K 2 (gCons (gName i) (gCons (gName j) gNil)))) tz D σ H := h H (Ex.refl H) _ fun v H1 e r => by
  obtain ⟨a, x, y, rfl, hs, q⟩ := hR v H1 e r
  exact g_pair (Q := fun σ' H' => tz D σ' H') hs q
/-! ### comprehensions -/
theorem len_snoc {α : Type} {P : Nat → α → Prop} {ys : List α} {y : α} (h : ∀ j z, ys[j]? = some z → P j z) (hy : P ys.length y) : ∀ j z, (ys ++ [y])[j]? = some z → P j z := fun j z hz => by
  rcases Nat.lt_trichotomy j ys.length with hj | hj | hj
  · rw [List.getElem?_append_left hj] at hz; exact h j z hz
  · subst hj; rw [List.getElem?_append_right (Nat.le_refl _), Nat.sub_self] at hz; cases hz; exact hy
  · rw [List.getElem?_append_right (Nat.le_of_lt hj)] at hz
    have : j - ys.length ≠ 0 := by omega
    cases hq : j - ys.length with
    | zero => exact absurd hq this
    | succ n => rw [hq] at hz; cases hz
/-- the tuples (and what is frozen) stay -/
def TEx (H H' : Hp) : Prop := ∀ a o, H a = some o → (match o with | .tup _ => True | .frz _ _ => True | _ => False) → H' a = some o
theorem Ex.t (e : Ex H H') : TEx H H' := fun a o h _ => e a o h
theorem TEx.refl (H : Hp) : TEx H H := fun _ _ h _ => h
theorem TEx.trans {H1 H2 H3 : Hp} (a : TEx H1 H2) (b : TEx H2 H3) : TEx H1 H3 := fun x o h c => b x o (a x o h c) c
theorem TEx.put {l : Addr} {xs ys : List V} (h : H l = some (.lst xs)) : TEx H (upd H l (.lst ys)) := fun a o e c => by
  by_cases hb : a = l
  · subst hb; rw [h] at e; cases e; exact c.elim
  · rw [upd_ne hb]; exact e
def MonoT (R : VP) : Prop := ∀ v H H', TEx H H' → R v H → R v H'
theorem MonoT.mono (m : MonoT R) : Mono R := fun v H H' e r => m v H H' (Ex.t e) r
theorem tex_sqt {a : Addr} {xs : List V} (e : TEx H H') (h : SqT K H a xs) : SqT K H' a xs := by
  rcases h with (h | ⟨o, h⟩) | h
  · exact .inl (.inl (e _ _ h trivial))
  · exact .inl (.inr ⟨o, e _ _ h trivial⟩)
  · exact .inr h
/-- what a comprehension has made behind i turns -/
def Made (H : Hp) (Dl : Addr) (Ri : Nat → VP) (i : Nat) (H' : Hp) : Prop := H Dl = none ∧ Ex H H' ∧ ∃ ys : List V, H' Dl = some (.lst ys) ∧ ys.length = i ∧ ∀ j y, ys[j]? = some y → Ri j y H'
theorem Made.turn {Dl : Addr} {Ri : Nat → VP} {i : Nat} {H2 : Hp} {y : V} (m : ∀ i, MonoT (Ri i)) (M : Made H Dl Ri i H') (hi : i < 100000) (e : Ex H' H2) (r : Ri i y H2) :
    ∃ acc, H2 Dl = some (.lst acc) ∧ acc.length < sizeLine ∧ Made H Dl Ri (i + 1) (upd H2 Dl (.lst (acc ++ [y]))) := by
  obtain ⟨h1, h2, ys, h3, h4, h5⟩ := M
  have t : TEx H2 (upd H2 Dl (.lst (ys ++ [y]))) := TEx.put (e Dl _ h3)
  refine ⟨ys, e Dl _ h3, sz_lt (by omega), h1, Ex.mut (h2.trans e) h1, ys ++ [y], upd_same, by rw [List.length_append, h4]; rfl, ?_⟩
  refine len_snoc (fun j z hz => m j z _ _ ((Ex.t e).trans t) (h5 j z hz)) ?_
  rw [h4]
  exact m i y _ _ t r
/-- the list that a comprehension gives: H the heap ahead -/
def LcR (S : List V → Hp → Prop) (R : List V → Nat → VP) (H : Hp) : VP := fun v H2 => ∃ p xs ys, v = .ref p ∧ H p = none ∧ H2 p = some (.lst ys) ∧ S xs H2 ∧ ys.length = xs.length ∧ ∀ (j : Nat) (y : V), ys[j]? = some y → R xs j y H2
theorem er_lcL {g : TG} {vs : List Nat} {S : List V → Hp → Prop} {R : List V → Nat → VP} (hsrc : ER tl σ H (fun v H2 => ∃ a xs, v = .ref a ∧ SqL K H2 a xs ∧ S xs H2)) (mS : MonoL S) (hz : ∀ xs H2, S xs H2 → xs.length < 100000) (m : ∀ xs i, MonoT (R xs i))
    (hb : ∀ xs i x H1, xs[i]? = some x → Ex H H1 → S xs H1 → ∀ Qk : VK, (∀ v H2, Ex H1 H2 → R xs i v H2 → Qk v H2) → g x (wipe σ vs) H1 fun σ2 H2 => wipe σ2 vs = wipe σ vs ∧ te σ2 H2 Qk) :
    ER (tLc (iList K tl) g tYes te vs) σ H (LcR S R H) := fun H0 e0 Q q => hsrc H0 e0 _ fun v H1 e1 ⟨a, xs, hv, ha, hS⟩ => ⟨a, hv, ⟨xs, ha⟩, fun Dl hD =>
  lc_list (xs := xs) (Made H1 Dl (R xs)) ⟨hD, Ex.new hD, [], upd_same, rfl, fun j y h => by simp at h⟩ (fun i H' _ p => ex_l p.2.1 ha)
    (fun i x H' hi M => hb xs i x H' hi ((e0.trans e1).trans M.2.1) (mS xs _ _ M.2.1 hS) _ fun y H2 e2 r => M.turn (m xs) (by have := (List.getElem?_eq_some_iff.mp hi).1; have := hz xs _ hS; omega) e2 r)
    (fun H' M => by
      obtain ⟨h1, h2, ys, h3, h4, h5⟩ := M
      exact q _ H' (e1.trans h2) ⟨Dl, xs, ys, rfl, fresh_back (e0.trans e1) h1, h3, mS xs _ _ h2 hS, h4, h5⟩)⟩
theorem er_lcT {g : TG} {vs : List Nat} {S : List V → Hp → Prop} {R : List V → Nat → VP} (hsrc : ER tl σ H (fun v H2 => ∃ a xs, v = .ref a ∧ SqT K H2 a xs ∧ S xs H2)) (mS : MonoL S) (hz : ∀ xs H2, S xs H2 → xs.length < 100000) (m : ∀ xs i, MonoT (R xs i))
    (hb : ∀ xs i x H1, xs[i]? = some x → Ex H H1 → S xs H1 → ∀ Qk : VK, (∀ v H2, Ex H1 H2 → R xs i v H2 → Qk v H2) → g x (wipe σ vs) H1 fun σ2 H2 => wipe σ2 vs = wipe σ vs ∧ te σ2 H2 Qk) :
    ER (tLc (iTup K tl) g tYes te vs) σ H (LcR S R H) := fun H0 e0 Q q => hsrc H0 e0 _ fun v H1 e1 ⟨a, xs, hv, ha, hS⟩ => ⟨a, hv, ⟨xs, ha⟩, fun Dl hD =>
  lc_tup (xs := xs) (Made H1 Dl (R xs)) ⟨hD, Ex.new hD, [], upd_same, rfl, fun j y h => by simp at h⟩ (fun i H' _ p => ex_t p.2.1 ha)
    (fun i x H' hi M => hb xs i x H' hi ((e0.trans e1).trans M.2.1) (mS xs _ _ M.2.1 hS) _ fun y H2 e2 r => M.turn (m xs) (by have := (List.getElem?_eq_some_iff.mp hi).1; have := hz xs _ hS; omega) e2 r)
    (fun H' M => by
      obtain ⟨h1, h2, ys, h3, h4, h5⟩ := M
      exact q _ H' (e1.trans h2) ⟨Dl, xs, ys, rfl, fresh_back (e0.trans e1) h1, h3, mS xs _ _ h2 hS, h4, h5⟩)⟩
end
end Sk

set_option Elab.async false
set_option linter.all false
set_option maxRecDepth 100000
set_option maxHeartbeats 2000000
namespace Sk
open PySem L2 Evl
def xAdd : R2 := rI0 fun i j => .int (i + j)
def xSub : R2 := rI0 fun i j => .int (i - j)
def xMul : R2 := rI CMul fun i j => .int (i * j)
def xMulX : R2 := rI CMulX fun i j => .int (i * j)
def xMod : R2 := rI (fun _ j => 0 < j) fun i j => .int (i % j)
def xFdiv : R2 := rI CDiv fun i j => .int (i / j)
def xPow : R2 := rI CPow fun i j => .int (i ^ j.toNat)
def xShl : R2 := rI CPow fun i j => .int (i * 2 ^ j.toNat)
def xShlW : R2 := rI CShl fun i j => .int (i * 2 ^ j.toNat)
def xShr : R2 := rI (fun _ j => 0 ≤ j) fun i j => .int (i / 2 ^ j.toNat)
def xAndM : R2 := fun x y H Q => ∃ (i : Int) (k : Nat), x = .int i ∧ y = .int (2 ^ k - 1) ∧ Q (.int (i % 2 ^ k)) H
def xLt : R2 := rI0 fun i j => .bl (decide (i < j))
def xLe : R2 := rI0 fun i j => .bl (decide (i ≤ j))
def xGt : R2 := rI0 fun i j => .bl (decide (j < i))
def xGe : R2 := rI0 fun i j => .bl (decide (j ≤ i))
def xIsN : R2 := fun x y H Q => y = .non ∧ Q (.bl (decide (x = .non))) H
def xNotN : R2 := fun x y H Q => y = .non ∧ Q (.bl (!decide (x = .non))) H
def xNeg : V → Hp → VK → Prop := rU fun i => .int (-i)
def xHalf : TIp := fun x y H Q => ∃ i : Int, x = .int i ∧ y = .int 1 ∧ Q (.int (i / 2)) H
def xInt1 : List V → Hp → VK → Prop := fun xs H Q => (∃ i, xs = [.int i] ∧ Q (.int i) H) ∨ ∃ k, xs = [.bl k] ∧ Q (.int (if k then 1 else 0)) H
def xMax2 : List V → Hp → VK → Prop := fun xs H Q => ∃ i j, xs = [.int i, .int j] ∧ Q (.int (if j > i then j else i)) H
def xMin2 : List V → Hp → VK → Prop := fun xs H Q => ∃ i j, xs = [.int i, .int j] ∧ Q (.int (if j < i then j else i)) H
def xAbs : List V → Hp → VK → Prop := fun xs H Q => ∃ i, xs = [.int i] ∧ Q (.int (if i < 0 then -i else i)) H
def tTruK (K : PySem.W.Frag) (ta : TE) : TT := fun σ H Q => ta σ H fun x H' => ∃ k, TruV K x H' k ∧ Q k H'

theorem ip_half {X : Cx} : PIp X .RShift xHalf := fun pins s σ H x y v u Q I r1 r2 h => iop_halfI pins s σ H x y v u Q I r1 r2 h
theorem hu64 {A : Around} {k : Nat} (hr : Room k A) : A.units + 64 < cLine := by have := hr.un; omega
/-- a def of the module, where it stands -/
structure DefAt (K : PySem.W.Frag) (mg : Str → Option Value) (x : Str) (st : Stmt) (ps : List Str) (f : Addr) (fd : FuncData) : Prop where
  fn : Fun K x x st f fd
  m : mg x = some (.ref f)
  b : Binds K fd ps []
/-- an own error class, where it stands -/
structure ClsAt (K : PySem.W.Frag) (mg : Str → Option Value) (x : Str) (C : Addr) : Prop where
  m : mg x = some (.ref C)
  k : PySem.W.keepIn K (.ref C) = true
  sb : PySem.W.subIn K (.ref C) (.type "BaseException") = some true
  ty : PySem.W.typeIn K (.ref C) = some (.type "type")
  e : ExcC K C
/-- what of the errors' own words is told -/
def nameIn (K : PySem.W.Frag) (C : Addr) : Option Str := (PySem.W.clsIn K C).map (·.name)
def wordOf (x : Str) : Str := if x = "NotAllowed" then "refused" else if x = "BadForm" then "form" else if x = "BadRange" then "range" else if x = "TooLarge" then "large" else if x = "Missing" then "missing" else if x = "Ring" then "ring" else "steps"
/-- what a raised error carries -/
def ErrAt (K : PySem.W.Frag) (C d : Addr) (H : Hp) : Prop := ∃ x, nameIn K C = some x ∧ H d = some (.xd [("word", .str (wordOf x))])
theorem ErrAt.ex {K : PySem.W.Frag} {C d : Addr} {H H' : Hp} (h : ErrAt K C d H) (e : Ex H H') : ErrAt K C d H' := let ⟨x, h1, h2⟩ := h; ⟨x, h1, e _ _ h2⟩
/-- raise X('..') -/
def tRaise (K : PySem.W.Frag) (E : XK) (C : Addr) : TS := fun _ _ H => ∀ H', Ex H H' → ∀ d, ErrAt K C d H' → E (.ref C) (some d) H'
/-- isinstance(e, C), isinstance(e, (C1, C2)), e the error that the suite holds, with its dict -/
def Cau (D : Addr) (cls : Value) (d : Option Addr) (H : Hp) : Prop := cls = .ref D ∧ ∃ dd fs, d = some dd ∧ H dd = some (.xd fs)
theorem ErrAt.cau {K : PySem.W.Frag} {C d : Addr} {H : Hp} (h : ErrAt K C d H) : Cau C (.ref C) (some d) H := let ⟨_, _, h2⟩ := h; ⟨rfl, d, _, rfl, h2⟩
def rIsEc (K : PySem.W.Frag) (D a : Addr) (cls : Value) (d : Option Addr) : List V → Hp → VK → Prop := fun xs H Q => Cau D cls d H ∧ rIsE K D a xs H Q
def rIsET (K : PySem.W.Frag) (D a : Addr) : List V → Hp → VK → Prop := fun xs H Q => ∃ (tp : Addr) (cs : List V) (us : List Value) (b : Bool), xs = [.ref a, .ref tp] ∧ H tp = some (.tup cs) ∧ Paired ClsV cs us ∧ PySem.W.kitAny K (.ref D) us = some b ∧ Q (.bl b) H
def rIsETc (K : PySem.W.Frag) (D a : Addr) (cls : Value) (d : Option Addr) : List V → Hp → VK → Prop := fun xs H Q => Cau D cls d H ∧ rIsET K D a xs H Q
theorem cau_at {X : Cx} {a D : Addr} {oe : Obj} {pn pins : List (Addr × Obj)} {cls : Value} {d : Option Addr} {σ : L2.St} {H : Hp} {s : Shared} (hz : Zc cls d oe) (hf : ∃ vs, oe.data = .fields vs) (I : Inv (X.suite a ((a, oe) :: pn)) pins σ H s) (h : Cau D cls d H) :
    ∃ od, PySem.W.InstAt s.heap a oe D (some od) := by
  obtain ⟨rfl, dd, fs, rfl, hd⟩ := h
  obtain ⟨mA, hns, -⟩ := (show ObjOk X.prog X.w H s.heap dd (.xd fs) from I.hok dd _ hd)
  obtain ⟨od, ho, -⟩ := lookIn_ns hns
  obtain ⟨vs, hv⟩ := hf
  exact ⟨od, (I.pin (a, oe) (List.mem_append.mpr (.inl List.mem_cons_self))).1, hz.1, (by unfold PySem.W.notCls; rw [hv] <;> rfl), (by rw [hz.2]; exact ho)⟩
theorem cau_kit {K : PySem.W.Frag} {D a : Addr} {oe od : Obj} (C : ExcC K D) : PySem.W.KitX K (.ref a) (.ref D) (fun h => PySem.W.InstAt h a oe D (some od)) :=
  PySem.W.kitx_exc (by obtain ⟨cd, hc, _⟩ := PySem.W.any_some C.hd; rw [hc]; rfl) C.hg C.hk C.hs C.ha C.hn C.ht C.hm
theorem call_isEc {X : Cx} {a D : Addr} {oe : Obj} {pn : List (Addr × Obj)} {cls : Value} {d : Option Addr} (C : ExcC X.K D) (hz : Zc cls d oe) (hf : ∃ vs, oe.data = .fields vs) : CallR (X.suite a ((a, oe) :: pn)) (.builtin "isinstance") (rIsEc X.K D a cls d) := by
  intro pins s σ H xs us Q I r h
  obtain ⟨hc, c, cv, b, rfl, hcv, e, q⟩ := h
  obtain ⟨u1, u2, rfl, r1, r2⟩ := vals2 r
  cases (show u1 = Value.ref a from r1)
  cases hcv _ r2
  obtain ⟨od, J⟩ := cau_at hz hf I hc
  exact PySem.W.kia_one (cau_kit C) I.kIn J e (fun z => nomatch z) fun tk => ⟨.bl b, H, I.kept (t' := tk) fun _ _ z => z, rfl, q⟩
theorem call_isETc {X : Cx} {a D : Addr} {oe : Obj} {pn : List (Addr × Obj)} {cls : Value} {d : Option Addr} (C : ExcC X.K D) (hz : Zc cls d oe) (hf : ∃ vs, oe.data = .fields vs) : CallR (X.suite a ((a, oe) :: pn)) (.builtin "isinstance") (rIsETc X.K D a cls d) := by
  intro pins s σ H xs us Q I r h
  obtain ⟨hc, tp, cs, ws, b, rfl, hT, k, e, q⟩ := h
  obtain ⟨u1, u2, rfl, r1, r2⟩ := vals2 r
  cases (show u2 = Value.ref tp from r2)
  cases (show u1 = Value.ref a from r1)
  obtain ⟨od, J⟩ := cau_at hz hf I hc
  obtain ⟨_, its, rv, o, h1, h2, n, h3⟩ := (show ObjOk X.prog X.w H s.heap tp (.tup cs) from I.hok tp _ hT)
  have e3 := ClsV.all k rv
  subst e3
  obtain ⟨oc, od, dt, sl⟩ := o
  simp only at h2 h3
  subst h2 h3
  exact PySem.W.kia_tup (cau_kit C) I.kIn J h1 e (fun z => nomatch z) fun tk => ⟨.bl b, H, I.kept (t' := tk) fun _ _ z => z, rfl, q⟩

/-! ### values of operations -/
section
variable {K : PySem.W.Frag} {σ : L2.St} {H H' : Hp} {ta tb te : TE} {i j : Int} {v : V} {t : TT} {x y : V} {D : Ends} {tz tu : TS}
theorem ev_add (ha : Ev ta σ H (.int i)) (hb : Ev tb σ H (.int j)) : Ev (tOp xAdd ta tb) σ H (.int (i + j)) := ev_op ha hb rv_I0
theorem ev_sub (ha : Ev ta σ H (.int i)) (hb : Ev tb σ H (.int j)) : Ev (tOp xSub ta tb) σ H (.int (i - j)) := ev_op ha hb rv_I0
theorem ev_mul (ha : Ev ta σ H (.int i)) (hb : Ev tb σ H (.int j)) (c : CMul i j) : Ev (tOp xMul ta tb) σ H (.int (i * j)) := ev_op ha hb (rv_I c)
theorem ev_mulX (ha : Ev ta σ H (.int i)) (hb : Ev tb σ H (.int j)) (c : CMulX i j) : Ev (tOp xMulX ta tb) σ H (.int (i * j)) := ev_op ha hb (rv_I c)
theorem ev_mod (ha : Ev ta σ H (.int i)) (hb : Ev tb σ H (.int j)) (c : 0 < j) : Ev (tOp xMod ta tb) σ H (.int (i % j)) := ev_op ha hb (rv_I c)
theorem ev_fdiv (ha : Ev ta σ H (.int i)) (hb : Ev tb σ H (.int j)) (c : CDiv i j) : Ev (tOp xFdiv ta tb) σ H (.int (i / j)) := ev_op ha hb (rv_I c)
theorem ev_pow (ha : Ev ta σ H (.int i)) (hb : Ev tb σ H (.int j)) (c : CPow i j) : Ev (tOp xPow ta tb) σ H (.int (i ^ j.toNat)) := ev_op ha hb (rv_I c)
theorem ev_shl (ha : Ev ta σ H (.int i)) (hb : Ev tb σ H (.int j)) (c : CPow i j) : Ev (tOp xShl ta tb) σ H (.int (i * 2 ^ j.toNat)) := ev_op ha hb (rv_I c)
theorem ev_andM {k : Nat} (ha : Ev ta σ H (.int i)) (hb : Ev tb σ H (.int (2 ^ k - 1))) : Ev (tOp xAndM ta tb) σ H (.int (i % 2 ^ k)) := ev_op ha hb fun H1 _ Q q => ⟨i, k, rfl, rfl, q H1 (Ex.refl H1)⟩
theorem ev_lt (ha : Ev ta σ H (.int i)) (hb : Ev tb σ H (.int j)) : Ev (tOp xLt ta tb) σ H (.bl (decide (i < j))) := ev_op ha hb rv_I0
theorem ev_le (ha : Ev ta σ H (.int i)) (hb : Ev tb σ H (.int j)) : Ev (tOp xLe ta tb) σ H (.bl (decide (i ≤ j))) := ev_op ha hb rv_I0
theorem ev_gt (ha : Ev ta σ H (.int i)) (hb : Ev tb σ H (.int j)) : Ev (tOp xGt ta tb) σ H (.bl (decide (j < i))) := ev_op ha hb rv_I0
theorem ev_ge (ha : Ev ta σ H (.int i)) (hb : Ev tb σ H (.int j)) : Ev (tOp xGe ta tb) σ H (.bl (decide (j ≤ i))) := ev_op ha hb rv_I0
theorem ev_eq (ha : Ev ta σ H x) (hb : Ev tb σ H y) (h : scal x y = true) : Ev (tOp rEq ta tb) σ H (.bl (decide (x = y))) := ev_op ha hb (rv_eq h)
theorem ev_ne (ha : Ev ta σ H x) (hb : Ev tb σ H y) (h : scal x y = true) : Ev (tOp rNe ta tb) σ H (.bl (!decide (x = y))) := ev_op ha hb (rv_ne h)
theorem ev_isN (ha : Ev ta σ H x) : Ev (tOp xIsN ta (tC .non)) σ H (.bl (decide (x = .non))) := ev_op ha ev_c fun H1 _ Q q => ⟨rfl, q H1 (Ex.refl H1)⟩
theorem ev_notN (ha : Ev ta σ H x) : Ev (tOp xNotN ta (tC .non)) σ H (.bl (!decide (x = .non))) := ev_op ha ev_c fun H1 _ Q q => ⟨rfl, q H1 (Ex.refl H1)⟩
theorem ev_neg (ha : Ev ta σ H (.int i)) : Ev (tUn xNeg ta) σ H (.int (-i)) := ev_un ha ru_neg
theorem ev_int1 (ha : Ev ta σ H (.int i)) : Ev (tCB xInt1 (tCons ta tNil)) σ H (.int i) := ev_cb (ea_cons ha ea_nil) fun H1 _ Q q => .inl ⟨i, rfl, q H1 (Ex.refl H1)⟩
theorem ev_max (ha : Ev ta σ H (.int i)) (hb : Ev tb σ H (.int j)) : Ev (tCB xMax2 (tCons ta (tCons tb tNil))) σ H (.int (if j > i then j else i)) := ev_cb (ea_cons ha (ea_cons hb ea_nil)) fun H1 _ Q q => ⟨i, j, rfl, q H1 (Ex.refl H1)⟩
theorem ev_min (ha : Ev ta σ H (.int i)) (hb : Ev tb σ H (.int j)) : Ev (tCB xMin2 (tCons ta (tCons tb tNil))) σ H (.int (if j < i then j else i)) := ev_cb (ea_cons ha (ea_cons hb ea_nil)) fun H1 _ Q q => ⟨i, j, rfl, q H1 (Ex.refl H1)⟩
theorem ev_abs (ha : Ev ta σ H (.int i)) : Ev (tCB xAbs (tCons ta tNil)) σ H (.int (if i < 0 then -i else i)) := ev_cb (ea_cons ha ea_nil) fun H1 _ Q q => ⟨i, rfl, q H1 (Ex.refl H1)⟩
theorem ev_bits (ha : Ev ta σ H (.int i)) : Ev (tBits ta) σ H (.int ((Builtin.Int.intBits i : Nat) : Int)) := fun H1 e Q q => ha H1 e _ fun H2 e2 => ⟨i, rfl, q H2 e2⟩
theorem ev_at {a : Addr} {xs : List V} {k : Int} (ho : Ev ta σ H (.ref a)) (hi : Ev tb σ H (.int k)) (hs : SqL K H a xs) (ha : atI xs k = some v) : Ev (tOp (rIxL K) ta tb) σ H v := ev_op ho hi (rv_ixL hs ha)
theorem ev_atT {a : Addr} {xs : List V} {k : Int} (ho : Ev ta σ H (.ref a)) (hi : Ev tb σ H (.int k)) (hs : SqT K H a xs) (ha : atI xs k = some v) : Ev (tOp (rIxT K) ta tb) σ H v := ev_op ho hi (rv_ixT hs ha)
theorem ev_lenL {a : Addr} {xs : List V} (ho : Ev ta σ H (.ref a)) (hs : SqL K H a xs) : Ev (tCB (rLenS K) (tCons ta tNil)) σ H (.int (xs.length : Int)) := ev_len ho hs
theorem ev_lenT {a : Addr} {xs : List V} (ho : Ev ta σ H (.ref a)) (hs : SqT K H a xs) : Ev (tCB (rLenS K) (tCons ta tNil)) σ H (.int (xs.length : Int)) := ev_cb (ea_cons ho ea_nil) fun H1 e Q q => ⟨a, xs, rfl, .inr (ex_t e hs), q H1 (Ex.refl H1)⟩
theorem et_truI (ha : Ev ta σ H (.int i)) : EvT (tTruK K ta) σ H (i != 0) := fun H1 e Q q => ha H1 e _ fun H2 e2 => ⟨_, rfl, q H2 e2⟩
theorem et_truL {a : Addr} {xs : List V} (ha : Ev ta σ H (.ref a)) (hs : SqL K H a xs) : EvT (tTruK K ta) σ H (!xs.isEmpty) := fun H1 e Q q => ha H1 e _ fun H2 e2 => ⟨_, .inl ⟨xs, ex_l (e.trans e2) hs, rfl⟩, q H2 e2⟩
theorem et_truT {a : Addr} {xs : List V} (ha : Ev ta σ H (.ref a)) (hs : SqT K H a xs) : EvT (tTruK K ta) σ H (!xs.isEmpty) := fun H1 e Q q => ha H1 e _ fun H2 e2 => ⟨_, .inr (.inl ⟨xs, ex_t (e.trans e2) hs, rfl⟩), q H2 e2⟩
theorem q_half {k : Nat} (hx : σ[k]? = some (some (.int i))) (n : tz D (σ.set k (some (.int (i / 2)))) H) : tSeq (tAug k (tC (.int 1)) xHalf) tz D σ H := ⟨.int i, hx, i, rfl, rfl, n⟩
end
/-! ### in, index: data of any depth in a tuple -/
theorem hu150 {A : Around} {k : Nat} (hr : Room k A) : A.units + 150 < cLine := by have := hr.un; omega
def rInN (K : PySem.W.Frag) : R2 := fun x y H Q => ∃ d ds, Dp K H x d ∧ Dp K H y (.tuple ds) ∧ d.canLay0 = true ∧ PyData.canLayAll0 ds = true ∧ PyData.depthAll ds ≤ 100 ∧ Q (.bl (ds.any fun z => PyData.eqv z d)) H
theorem op_inN {X : Cx} (hu : X.A.units + 150 < cLine) : OpR X (compareOp .In) (rInN X.K) := fun pins s σ H x y v u Q I rx ry ⟨d, ds, hd, he, sd, se, hz, q⟩ => by
  obtain ⟨as, r1⟩ := Dp.reads I d x v hd rx
  obtain ⟨bs, r2⟩ := Dp.reads I (.tuple ds) y u he ry
  exact SeqAt.in_tuple_reads r2 r1 se sd (by have := Nat.min_le_left (PyData.depthAll ds) d.depth; omega) ⟨.bl _, H, I, rfl, q⟩
def rIndexN (K : PySem.W.Frag) : V → List V → Hp → VK → Prop := fun x xs H Q => ∃ (a : Addr) (y : V) (d : PyData) (ds : List PyData) (j : Nat) (z : PyData), x = V.ref a ∧ xs = [y] ∧ Dp K H (V.ref a) (.tuple ds) ∧ Dp K H y d ∧
  PyData.canLayAll0 ds = true ∧ d.canLay0 = true ∧ PyData.depthAll ds ≤ 100 ∧ ds[j]? = some z ∧ PyData.eqv z d = true ∧ (∀ (m : Nat) (z' : PyData), m < j → ds[m]? = some z' → PyData.eqv z' d = false) ∧ Q (.int (j : Nat)) H
theorem mt_indexN {X : Cx} (hu : X.A.units + 150 < cLine) : MtR X "tuple.index" (rIndexN X.K) := by
  intro pins s σ H x xs v us Q I rx rxs h
  obtain ⟨a, y, d, ds, j, z, rfl, rfl, hl, hy, hxs, sd, hz0, hz, hzj, hno, q⟩ := h
  cases rx
  cases rxs with
  | cons ry rt =>
    rename_i uy ut
    cases rt
    obtain ⟨bs, r1⟩ := Dp.reads I d y uy hy ry
    have hroom : X.A.units + 1 + min (PyData.depthAll ds) d.depth < cLine := by have := Nat.min_le_left (PyData.depthAll ds) d.depth; omega
    cases hl with
    | tup hs ha =>
      obtain ⟨its, rv, pl, hlen⟩ := I.tuple hs
      obtain ⟨⟨cls, dd, data, sls⟩, ho, hc, n, hdt⟩ := pl
      simp only at hc hdt
      subst hc hdt
      obtain ⟨as, h4⟩ := Dp.readsAll I ds _ its ha rv
      have hn : its.length = ds.length := SeqAt.ReadsAll.length ds its as h4
      have hmap : its.map (SeqAt.readOf s.heap) = ds := SeqAt.readsAll_map ds its as hxs h4
      obtain ⟨hjd, _⟩ := List.getElem?_eq_some_iff.mp hz
      have hjl : j < its.length := by omega
      have hj : j < its.toArray.size := by simpa using hjl
      have at_ : ∀ (m : Nat) (hm : m < its.toArray.size) (z' : PyData), ds[m]? = some z' → SeqAt.readOf s.heap its.toArray[m] = z' := by
        intro m hm z' hz'
        have hml : m < its.length := by simpa using hm
        rw [← hmap, List.getElem?_map, List.getElem?_eq_getElem hml] at hz'
        have e1 : SeqAt.readOf s.heap its[m] = z' := Option.some.inj (show some (SeqAt.readOf s.heap its[m]) = some z' from hz')
        simpa using e1
      refine call_meets PySem.F.slot_tuple_index ⟨_, ho, rfl⟩ PySem.F.entry_tuple_index (PySem.F.args_tuple_index_2 _ _)
        (TI.tuple_indexAt a its.toArray n dd sls uy (fun u => PyData.eqv (SeqAt.readOf s.heap u) d) j hj ?_ ?_) ⟨ho, SeqAt.items_eqAt (vs := its.toArray) (show ReadsAll s.heap its.toArray.toList ds as from h4) r1 hxs sd hroom, ?_⟩
      · show PyData.eqv (SeqAt.readOf s.heap its.toArray[j]) d = true
        rw [at_ j hj z hz]
        exact hzj
      · intro m hm hmj
        have hmd : m < ds.length := by omega
        have hz' : ds[m]? = some ds[m] := List.getElem?_eq_getElem hmd
        show PyData.eqv (SeqAt.readOf s.heap its.toArray[m]) d = false
        rw [at_ m hm _ hz']
        exact hno m _ hmj hz'
      · exact ⟨.int (j : Nat), H, I.tok _, ⟨_, rfl⟩, q⟩
end Sk

/-! numbers as trees -/
namespace Sk
inductive T where
  | nil
  | cons (s : Int) (e : T) (r : T)
  deriving DecidableEq, Repr

/-- the signed places of an integer, the least first -/
def naf (n : Int) (p : Nat) : List (Int × Nat) :=
  if h : n = 0 then [] else if h2 : n % 2 = 1 then (2 - n % 4, p) :: naf ((n - (2 - n % 4)) / 2) (p + 1) else naf (n / 2) (p + 1)
termination_by n.natAbs
decreasing_by all_goals omega

theorem naf_zero (p : Nat) : naf 0 p = [] := by rw [naf]; simp
theorem naf_odd {n : Int} (h : n % 2 = 1) (p : Nat) : naf n p = (2 - n % 4, p) :: naf ((n - (2 - n % 4)) / 2) (p + 1) := by
  rw [naf, dif_neg (by omega), dif_pos h]
theorem naf_even {n : Int} (h : n % 2 = 0) (p : Nat) : naf n p = naf (n / 2) (p + 1) := by
  by_cases h0 : n = 0
  · subst h0; rw [naf_zero]; show _ = naf 0 _; rw [naf_zero]
  · rw [naf, dif_neg h0, dif_neg (by omega)]

/-- every place of n lies below: 2 ^ (q - p) ≤ 2 |n| - 1 -/
theorem naf_mem_ge : ∀ (k : Nat) (n : Int), n.natAbs ≤ k → ∀ (p : Nat) (x : Int × Nat), x ∈ naf n p → p ≤ x.2 ∧ 2 ^ (x.2 - p) + 1 ≤ 2 * n.natAbs ∧ (x.1 = 1 ∨ x.1 = -1)
  | 0, n, hk, p, x, hx => by
    have : n = 0 := by omega
    subst this; rw [naf_zero] at hx; cases hx
  | k + 1, n, hk, p, x, hx => by
    by_cases h0 : n = 0
    · subst h0; rw [naf_zero] at hx; cases hx
    rcases Int.emod_two_eq n with h | h
    · rw [naf_even h] at hx
      obtain ⟨h1, h2, h3⟩ := naf_mem_ge k (n / 2) (by omega) (p + 1) x hx
      refine ⟨by omega, ?_, h3⟩
      have e : x.2 - p = (x.2 - (p + 1)) + 1 := by omega
      rw [e, Nat.pow_succ]
      omega
    · rw [naf_odd h] at hx
      rcases List.mem_cons.mp hx with rfl | hx
      · have : n.natAbs ≥ 1 := by omega
        refine ⟨Nat.le_refl _, ?_, by show 2 - n % 4 = 1 ∨ 2 - n % 4 = -1; omega⟩
        show 2 ^ (p - p) + 1 ≤ _
        rw [Nat.sub_self]
        omega
      · by_cases hz : (n - (2 - n % 4)) / 2 = 0
        · rw [hz, naf_zero] at hx; cases hx
        have hev : (n - (2 - n % 4)) / 2 % 2 = 0 := by omega
        rw [naf_even hev] at hx
        obtain ⟨h1, h2, h3⟩ := naf_mem_ge k ((n - (2 - n % 4)) / 2 / 2) (by omega) (p + 1 + 1) x hx
        refine ⟨by omega, ?_, h3⟩
        have e : x.2 - p = (x.2 - (p + 1 + 1)) + 1 + 1 := by omega
        rw [e, Nat.pow_succ, Nat.pow_succ]
        omega
theorem naf_place {n : Int} {x : Int × Nat} (h : x ∈ naf n 0) : 2 ^ x.2 + 1 ≤ 2 * n.natAbs := by
  have := (naf_mem_ge n.natAbs n (Nat.le_refl _) 0 x h).2.1
  simpa using this
theorem naf_sign {n : Int} {x : Int × Nat} (h : x ∈ naf n 0) : x.1 = 1 ∨ x.1 = -1 := (naf_mem_ge n.natAbs n (Nat.le_refl _) 0 x h).2.2
theorem naf_lt {n : Int} {x : Int × Nat} (h : x ∈ naf n 0) : x.2 < n.natAbs := by
  have h1 := naf_place h
  have h2 : x.2 < 2 ^ x.2 := Nat.lt_two_pow_self
  rcases Nat.eq_zero_or_pos x.2 with h3 | h3
  · rw [h3] at h1; simp at h1; omega
  · have h4 : 2 * x.2 ≤ 2 ^ x.2 := by
      have : x.2 = (x.2 - 1) + 1 := by omega
      have h5 : x.2 - 1 < 2 ^ (x.2 - 1) := Nat.lt_two_pow_self
      rw [this, Nat.pow_succ]
      omega
    omega
/-- |n| ≤ 2 ^ m: the places are at most m -/
theorem naf_le {n : Int} {m : Nat} (hn : n.natAbs ≤ 2 ^ m) {x : Int × Nat} (h : x ∈ naf n 0) : x.2 ≤ m := by
  have h1 := naf_place h
  apply Nat.le_of_not_lt
  intro h2
  have h3 : 2 ^ (m + 1) ≤ 2 ^ x.2 := Nat.pow_le_pow_right (by decide) h2
  rw [Nat.pow_succ] at h3
  omega

def ofL : List (Int × T) → T
  | [] => .nil
  | (s, e) :: r => .cons s e (ofL r)
def T.toL : T → List (Int × T)
  | .nil => []
  | .cons s e r => (s, e) :: r.toL
theorem toL_ofL : ∀ l, (ofL l).toL = l
  | [] => rfl
  | (s, e) :: r => by rw [ofL, T.toL, toL_ofL r]
theorem ofL_toL : ∀ t : T, ofL t.toL = t
  | .nil => rfl
  | .cons s e r => by rw [T.toL, ofL, ofL_toL r]

/-- the number for an integer -/
def toT (n : Int) : T := ofL ((naf n 0).reverse.attach.map fun x => (x.1.1, toT (x.1.2 : Int)))
termination_by n.natAbs
decreasing_by
  have h := naf_lt (List.mem_reverse.mp x.2)
  simpa using h
theorem toT_eq (n : Int) : toT n = ofL ((naf n 0).reverse.map fun x => (x.1, toT (x.2 : Int))) := by
  rw [toT]
  congr 1
  exact List.attach_map_val (l := (naf n 0).reverse) (f := fun x : Int × Nat => (x.1, toT (x.2 : Int)))

def T.val : T → Int
  | .nil => 0
  | .cons s e r => s * 2 ^ e.val.toNat + r.val

def sumP : List (Int × Nat) → Int
  | [] => 0
  | (s, p) :: r => s * 2 ^ p + sumP r
theorem sumP_append : ∀ a b, sumP (a ++ b) = sumP a + sumP b
  | [], b => by simp [sumP]
  | (s, p) :: r, b => by rw [List.cons_append, sumP, sumP, sumP_append r b]; omega
theorem sumP_reverse : ∀ a, sumP a.reverse = sumP a
  | [] => rfl
  | (s, p) :: r => by rw [List.reverse_cons, sumP_append, sumP_reverse r, sumP, sumP, sumP]; omega
theorem naf_sum : ∀ (k : Nat) (n : Int), n.natAbs ≤ k → ∀ p, sumP (naf n p) = n * 2 ^ p
  | 0, n, hk, p => by
    have : n = 0 := by omega
    subst this; rw [naf_zero]; simp [sumP]
  | k + 1, n, hk, p => by
    by_cases h0 : n = 0
    · subst h0; rw [naf_zero]; simp [sumP]
    rcases Int.emod_two_eq n with h | h
    · rw [naf_even h, naf_sum k (n / 2) (by omega), Int.pow_succ, Int.mul_comm (2 ^ p) 2, ← Int.mul_assoc]
      congr 1
      omega
    · rw [naf_odd h, sumP]
      have h4 : n % 4 = 1 ∨ n % 4 = 3 := by omega
      have hs : sumP (naf ((n - (2 - n % 4)) / 2) (p + 1)) = ((n - (2 - n % 4)) / 2) * 2 ^ (p + 1) := by
        by_cases hz : (n - (2 - n % 4)) / 2 = 0
        · rw [hz, naf_zero]; simp [sumP]
        · exact naf_sum k _ (by omega) _
      rw [hs, Int.pow_succ, Int.mul_comm (2 ^ p) 2, ← Int.mul_assoc, ← Int.add_mul]
      congr 1
      omega
theorem val_ofL (l : List (Int × T)) : (ofL l).val = (l.map fun x => x.1 * 2 ^ x.2.val.toNat).sum := by
  induction l with
  | nil => rfl
  | cons x r ih => obtain ⟨s, e⟩ := x; rw [ofL, T.val, ih, List.map_cons, List.sum_cons]
theorem toT_val_aux : ∀ (k : Nat) (n : Int), n.natAbs ≤ k → (toT n).val = n
  | 0, n, hk => by
    have : n = 0 := by omega
    subst this; rw [toT_eq, naf_zero]; rfl
  | k + 1, n, hk => by
    rw [toT_eq, val_ofL, List.map_map]
    have h : ∀ l : List (Int × Nat), (∀ x ∈ l, x.2 < n.natAbs) → (l.map ((fun x : Int × T => x.1 * 2 ^ x.2.val.toNat) ∘ fun x : Int × Nat => (x.1, toT (x.2 : Int)))).sum = sumP l := by
      intro l
      induction l with
      | nil => intro _; rfl
      | cons x r ih =>
        intro hl
        obtain ⟨s, p⟩ := x
        rw [List.map_cons, List.sum_cons, ih fun y hy => hl y (List.mem_cons_of_mem _ hy), sumP]
        have hp := hl (s, p) List.mem_cons_self
        show s * 2 ^ (toT (p : Int)).val.toNat + _ = _
        rw [toT_val_aux k (p : Int) (by simp at hp ⊢; omega)]
        rfl
    rw [h _ fun x hx => naf_lt (List.mem_reverse.mp hx), sumP_reverse, naf_sum n.natAbs n (Nat.le_refl _) 0]
    simp
theorem toT_val (n : Int) : (toT n).val = n := toT_val_aux n.natAbs n (Nat.le_refl _)

/-- how many figures: the model's bit_length -/
def bl (n : Nat) : Nat := if n = 0 then 0 else n.log2 + 1
theorem lt_bl (n : Nat) : n < 2 ^ bl n := by
  unfold bl
  split
  · rename_i h; subst h; decide
  · rename_i h; exact Nat.lt_log2_self

/-- value_within -/
def T.within : T → Nat → Option Int
  | .nil, _ => some 0
  | .cons s e r, b => match e.within (bl b) with
    | none => none
    | some p => if p > (b : Int) then none else (r.within b).map (s * 2 ^ p.toNat + ·)
theorem within_val : ∀ (t : T) (b : Nat) (q : Int), t.within b = some q → q = t.val
  | .nil, b, q, h => by injection h with h; exact h.symm
  | .cons s e r, b, q, h => by
    rw [T.within] at h
    cases he : e.within (bl b) with
    | none => rw [he] at h; cases h
    | some p =>
      rw [he] at h
      simp only at h
      split at h
      · cases h
      · cases hr : r.within b with
        | none => rw [hr] at h; cases h
        | some z =>
          rw [hr] at h
          injection h with h
          rw [T.val, ← within_val e _ _ he, ← within_val r _ _ hr]
          exact h.symm
theorem within_ofL (b : Nat) : ∀ l : List (Int × Nat), (∀ x ∈ l, (toT (x.2 : Int)).within (bl b) = some (x.2 : Int) ∧ x.2 ≤ b) →
    (ofL (l.map fun x => (x.1, toT (x.2 : Int)))).within b = some (sumP l)
  | [], _ => rfl
  | (s, p) :: r, h => by
    obtain ⟨h1, h2⟩ := h (s, p) List.mem_cons_self
    rw [List.map_cons, ofL, T.within]
    have h1' : (toT (p : Int)).within (bl b) = some (p : Int) := h1
    rw [h1']
    simp only
    rw [if_neg (by have : p ≤ b := h2; omega), within_ofL b r fun x hx => h x (List.mem_cons_of_mem _ hx)]
    simp [sumP]
theorem within_small : ∀ (k : Nat) (n : Nat), n ≤ k → ∀ b : Nat, n ≤ b → (toT (n : Int)).within (bl b) = some (n : Int)
  | 0, n, hk, b, hb => by
    have : n = 0 := by omega
    subst this; rw [toT_eq]; show (ofL (List.map _ (naf 0 0).reverse)).within _ = _; rw [naf_zero]; rfl
  | k + 1, n, hk, b, hb => by
    rw [toT_eq, within_ofL]
    · rw [sumP_reverse, naf_sum _ _ (Nat.le_refl _)]; simp
    · intro x hx
      have hx := List.mem_reverse.mp hx
      have h1 := naf_lt hx
      have h2 : x.2 ≤ bl b := naf_le (n := (n : Int)) (m := bl b) (by have := lt_bl b; simp; omega) hx
      exact ⟨within_small k x.2 (by simp at h1; omega) (bl b) h2, h2⟩
/-- value_within of an integer's number -/
theorem within_int (n : Int) (b : Nat) : (toT n).within b = if (naf n 0).all (fun x => decide (x.2 ≤ b)) = true then some n else none := by
  split
  · rename_i h
    rw [toT_eq, within_ofL]
    · rw [sumP_reverse, naf_sum _ _ (Nat.le_refl _)]; simp
    · intro x hx
      have hx := List.mem_reverse.mp hx
      have h1 : x.2 ≤ b := of_decide_eq_true (List.all_eq_true.mp h x hx)
      exact ⟨within_small x.2 x.2 (Nat.le_refl _) b h1, h1⟩
  · rename_i h
    have h' : ∃ x ∈ naf n 0, b < x.2 := by
      apply Classical.byContradiction
      intro hn
      apply h
      rw [List.all_eq_true]
      intro x hx
      apply decide_eq_true
      exact Nat.le_of_not_lt fun q => hn ⟨x, hx, q⟩
    obtain ⟨x, hx, hb⟩ := h'
    rw [toT_eq]
    have : ∀ l : List (Int × Nat), x ∈ l → (ofL (l.map fun x => (x.1, toT (x.2 : Int)))).within b = none := by
      intro l
      induction l with
      | nil => intro h; cases h
      | cons y r ih =>
        intro hl
        obtain ⟨s, p⟩ := y
        rw [List.map_cons, ofL, T.within]
        cases he : (toT (p : Int)).within (bl b) with
        | none => rfl
        | some q =>
          have hq := within_val _ _ _ he
          rw [toT_val] at hq
          simp only
          split
          · rfl
          · rename_i hqb
            rcases List.mem_cons.mp hl with hl | hl
            · subst hl; simp at hb; omega
            · rw [ih hl]; rfl
    exact this _ (List.mem_reverse.mpr hx)
/-- a place above b: at least 2 ^ b in size -/
theorem big_of_place {n : Int} {b : Nat} {x : Int × Nat} (hx : x ∈ naf n 0) (hb : b < x.2) : 2 ^ b + 1 ≤ n.natAbs := by
  have h1 := naf_place hx
  have h2 : 2 ^ (b + 1) ≤ 2 ^ x.2 := Nat.pow_le_pow_right (by decide) hb
  rw [Nat.pow_succ] at h2
  omega
def T.size : T → Nat
  | .nil => 1
  | .cons _ e r => e.size + r.size
def T.height : T → Nat
  | .nil => 0
  | .cons _ e r => max (e.height + 1) r.height
def T.fits (t : T) : Prop := t.size ≤ 300 ∧ t.height ≤ 40
def T.sgn : T → Int
  | .nil => 0
  | .cons s _ _ => s
instance (t : T) : Decidable t.fits := by unfold T.fits; exact inferInstance
end Sk

set_option Elab.async false
set_option linter.all false
set_option maxRecDepth 100000
set_option maxHeartbeats 2000000
namespace Sk
open PySem L2 Evl
/-! ### numbers in the heap -/
def T.items : T → List PyData
  | .nil => []
  | .cons s e r => .tuple [.int s, .tuple e.items] :: r.items
def T.data (t : T) : PyData := .tuple t.items
/-- v is the number t -/
def NumV (K : PySem.W.Frag) (H : Hp) (v : V) (t : T) : Prop := Dp K H v t.data
/-- the terms of t -/
def TermsV (K : PySem.W.Frag) (H : Hp) (xs : List V) (t : T) : Prop := DpAll K H xs t.items
section
variable {K : PySem.W.Frag} {H H' : Hp} {v : V} {t : T}
theorem NumV.out (h : NumV K H v t) : ∃ a xs, v = .ref a ∧ SqT K H a xs ∧ TermsV K H xs t := by
  cases h with
  | tup h1 h2 => exact ⟨_, _, rfl, h1, h2⟩
theorem NumV.mk {a : Addr} {xs : List V} (h1 : SqT K H a xs) (h2 : TermsV K H xs t) : NumV K H (.ref a) t := L2.Dp.tup h1 h2
theorem TermsV.nil_out {xs : List V} (h : TermsV K H xs .nil) : xs = [] := by cases h; rfl
theorem TermsV.nil : TermsV K H [] .nil := L2.DpAll.nil
theorem TermsV.cons_out {xs : List V} {s : Int} {e r : T} (h : TermsV K H xs (.cons s e r)) : ∃ p w ys, xs = .ref p :: ys ∧ SqT K H p [.int s, w] ∧ NumV K H w e ∧ TermsV K H ys r := by
  cases h with
  | cons h1 h2 =>
    cases h1 with
    | tup g1 g2 =>
      cases g2 with
      | cons k1 k2 =>
        cases k1
        cases k2 with
        | cons l1 l2 =>
          cases l2
          exact ⟨_, _, _, rfl, g1, l1, h2⟩
theorem TermsV.cons {p : Addr} {w : V} {ys : List V} {s : Int} {e r : T} (h1 : SqT K H p [.int s, w]) (h2 : NumV K H w e) (h3 : TermsV K H ys r) : TermsV K H (.ref p :: ys) (.cons s e r) :=
  L2.DpAll.cons (L2.Dp.tup h1 (L2.DpAll.cons (L2.Dp.int s) (L2.DpAll.cons h2 L2.DpAll.nil))) h3
theorem TermsV.tex : ∀ {t : T} {xs : List V}, TermsV K H xs t → TEx H H' → TermsV K H' xs t
  | .nil, xs, h, _ => by rw [h.nil_out]; exact TermsV.nil
  | .cons s e r, xs, h, k => by
    obtain ⟨p, w, ys, rfl, h1, h2, h3⟩ := h.cons_out
    obtain ⟨a, zs, rfl, g1, g2⟩ := h2.out
    exact TermsV.cons (tex_sqt k h1) (NumV.mk (tex_sqt k g1) (TermsV.tex g2 k)) (TermsV.tex h3 k)
theorem NumV.tex (h : NumV K H v t) (e : TEx H H') : NumV K H' v t := by
  obtain ⟨a, zs, rfl, g1, g2⟩ := h.out
  exact NumV.mk (tex_sqt e g1) (g2.tex e)
theorem NumV.ex (h : NumV K H v t) (e : Ex H H') : NumV K H' v t := h.tex (Ex.t e)
theorem TermsV.ex {xs : List V} (h : TermsV K H xs t) (e : Ex H H') : TermsV K H' xs t := h.tex (Ex.t e)
theorem numT : MonoT (fun v H => NumV K H v t) := fun v H H' e h => NumV.tex h e
theorem TermsV.len : ∀ {t : T} {xs : List V}, TermsV K H xs t → xs.length = t.toL.length
  | .nil, xs, h => by rw [h.nil_out]; rfl
  | .cons s e r, xs, h => by
    obtain ⟨p, w, ys, rfl, _, _, h3⟩ := h.cons_out
    show ys.length + 1 = r.toL.length + 1
    rw [TermsV.len h3]
/-- term by term -/
theorem TermsV.get : ∀ {t : T} {xs : List V} {i : Nat} {x : V}, TermsV K H xs t → xs[i]? = some x → ∃ p s e w, x = .ref p ∧ t.toL[i]? = some (s, e) ∧ SqT K H p [.int s, w] ∧ NumV K H w e
  | .nil, xs, i, x, h, e => by rw [h.nil_out] at e; simp at e
  | .cons s e r, xs, 0, x, h, q => by
    obtain ⟨p, w, ys, rfl, h1, h2, h3⟩ := h.cons_out
    simp at q; subst q
    exact ⟨p, s, e, w, rfl, rfl, h1, h2⟩
  | .cons s e r, xs, i + 1, x, h, q => by
    obtain ⟨p, w, ys, rfl, h1, h2, h3⟩ := h.cons_out
    simp at q
    obtain ⟨p', s', e', w', g1, g2, g3, g4⟩ := TermsV.get h3 q
    exact ⟨p', s', e', w', g1, g2, g3, g4⟩
/-- terms from their parts -/
theorem TermsV.of : ∀ {l : List (Int × T)} {xs : List V}, xs.length = l.length → (∀ (i : Nat) (x : V) (s : Int) (e : T), xs[i]? = some x → l[i]? = some (s, e) → ∃ p w, x = V.ref p ∧ SqT K H p [V.int s, w] ∧ NumV K H w e) → TermsV K H xs (ofL l)
  | [], [], _, _ => L2.DpAll.nil
  | [], _ :: _, h, _ => by simp at h
  | _ :: _, [], h, _ => by simp at h
  | (s, e) :: l, x :: xs, h, k => by
    obtain ⟨p, w, rfl, h1, h2⟩ := k 0 x s e rfl rfl
    exact TermsV.cons h1 h2 (TermsV.of (by simpa using h) fun i x s e h1 h2 => k (i + 1) x s e (by simpa using h1) (by simpa using h2))
end
end Sk

set_option Elab.async false
set_option linter.all false
set_option maxRecDepth 100000
set_option maxHeartbeats 2000000
namespace Sk
open PySem L2 Evl
/-! ### promises: from what is handed to the relation of what comes back; with X: and which error may leave -/
def spF0 (P : Hp → VP → Prop) : Sp := fun vs H Q _ => ∃ R, vs = [] ∧ P H R ∧ ∀ v H', Ex H H' → R v H' → Q v H'
def spF1 (P : V → Hp → VP → Prop) : Sp := fun vs H Q _ => ∃ x R, vs = [x] ∧ P x H R ∧ ∀ v H', Ex H H' → R v H' → Q v H'
def spF2 (P : V → V → Hp → VP → Prop) : Sp := fun vs H Q _ => ∃ x y R, vs = [x, y] ∧ P x y H R ∧ ∀ v H', Ex H H' → R v H' → Q v H'
def spF3 (P : V → V → V → Hp → VP → Prop) : Sp := fun vs H Q _ => ∃ x y z R, vs = [x, y, z] ∧ P x y z H R ∧ ∀ v H', Ex H H' → R v H' → Q v H'
def spF4 (P : V → V → V → V → Hp → VP → Prop) : Sp := fun vs H Q _ => ∃ x y z u R, vs = [x, y, z, u] ∧ P x y z u H R ∧ ∀ v H', Ex H H' → R v H' → Q v H'
abbrev WP := Addr → Prop
def spX1 (K : PySem.W.Frag) (P : V → Hp → VP → WP → Prop) : Sp := fun vs H Q E => ∃ x R W, vs = [x] ∧ P x H R W ∧ (∀ v H', Ex H H' → R v H' → Q v H') ∧ ∀ C H', Ex H H' → W C → ∀ d, ErrAt K C d H' → E (.ref C) (some d) H'
def spX2 (K : PySem.W.Frag) (P : V → V → Hp → VP → WP → Prop) : Sp := fun vs H Q E => ∃ x y R W, vs = [x, y] ∧ P x y H R W ∧ (∀ v H', Ex H H' → R v H' → Q v H') ∧ ∀ C H', Ex H H' → W C → ∀ d, ErrAt K C d H' → E (.ref C) (some d) H'
def spX3 (K : PySem.W.Frag) (P : V → V → V → Hp → VP → WP → Prop) : Sp := fun vs H Q E => ∃ x y z R W, vs = [x, y, z] ∧ P x y z H R W ∧ (∀ v H', Ex H H' → R v H' → Q v H') ∧ ∀ C H', Ex H H' → W C → ∀ d, ErrAt K C d H' → E (.ref C) (some d) H'
section
variable {K : PySem.W.Frag} {vs : List V} {H : Hp} {Q : VK} {E : XK} {R : VP} {W : WP} {x y z u : V}
theorem spF1.len {P} (h : spF1 P vs H Q E) : vs.length = 1 := by obtain ⟨x, R, rfl, _⟩ := h; rfl
theorem spF2.len {P} (h : spF2 P vs H Q E) : vs.length = 2 := by obtain ⟨x, y, R, rfl, _⟩ := h; rfl
theorem spF3.len {P} (h : spF3 P vs H Q E) : vs.length = 3 := by obtain ⟨x, y, z, R, rfl, _⟩ := h; rfl
theorem spF4.len {P} (h : spF4 P vs H Q E) : vs.length = 4 := by obtain ⟨x, y, z, u, R, rfl, _⟩ := h; rfl
theorem spX1.len {P} (h : spX1 K P vs H Q E) : vs.length = 1 := by obtain ⟨x, R, W, rfl, _⟩ := h; rfl
theorem spX2.len {P} (h : spX2 K P vs H Q E) : vs.length = 2 := by obtain ⟨x, y, R, W, rfl, _⟩ := h; rfl
theorem spX3.len {P} (h : spX3 K P vs H Q E) : vs.length = 3 := by obtain ⟨x, y, z, R, W, rfl, _⟩ := h; rfl
theorem sr1 {P} (h : P x H R) : SR (spF1 P) [x] H R := fun Q E q => ⟨x, R, rfl, h, q⟩
theorem sr2 {P} (h : P x y H R) : SR (spF2 P) [x, y] H R := fun Q E q => ⟨x, y, R, rfl, h, q⟩
theorem sr3 {P} (h : P x y z H R) : SR (spF3 P) [x, y, z] H R := fun Q E q => ⟨x, y, z, R, rfl, h, q⟩
theorem sr4 {P} (h : P x y z u H R) : SR (spF4 P) [x, y, z, u] H R := fun Q E q => ⟨x, y, z, u, R, rfl, h, q⟩
/-- a call that may raise, where nothing is raised -/
theorem srx1 {P} (h : P x H R fun _ => False) : SR (spX1 K P) [x] H R := fun Q E q => ⟨x, R, _, rfl, h, q, fun _ _ _ z => z.elim⟩
theorem srx2 {P} (h : P x y H R fun _ => False) : SR (spX2 K P) [x, y] H R := fun Q E q => ⟨x, y, R, _, rfl, h, q, fun _ _ _ z => z.elim⟩
theorem srx3 {P} (h : P x y z H R fun _ => False) : SR (spX3 K P) [x, y, z] H R := fun Q E q => ⟨x, y, z, R, _, rfl, h, q, fun _ _ _ z => z.elim⟩
end
/-! ### calls of one, two, three arguments by their values -/
section
variable {K : PySem.W.Frag} {σ : L2.St} {H : Hp} {te tf tg : TE} {R R1 R2 R3 : VP} {E : XK} {D : Ends} {tz tu : TS} {t : TT} {i : Nat}
theorem er_call1 {P} (h : ER te σ H R1) (m : Mono R1) (k : ∀ v H1, Ex H H1 → R1 v H1 → P v H1 R) : ER (tCall (spF1 P) [] E (tCons te tNil)) σ H R :=
  er_call (ea_one h m) fun vs H1 e ⟨v, hv, r⟩ => by rw [hv]; exact sr1 (k v H1 e r)
theorem er_call2 {P} (h : ER te σ H R1) (m : Mono R1) (h' : ER tf σ H R2) (m' : Mono R2) (k : ∀ v w H1, Ex H H1 → R1 v H1 → R2 w H1 → P v w H1 R) : ER (tCall (spF2 P) [] E (tCons te (tCons tf tNil))) σ H R :=
  er_call (ea_two h m h' m') fun vs H1 e ⟨v, w, hv, r, r'⟩ => by rw [hv]; exact sr2 (k v w H1 e r r')
theorem er_call3 {P} (h : ER te σ H R1) (m : Mono R1) (h' : ER tf σ H R2) (m' : Mono R2) (h'' : ER tg σ H R3) (m'' : Mono R3) (k : ∀ v w z H1, Ex H H1 → R1 v H1 → R2 w H1 → R3 z H1 → P v w z H1 R) : ER (tCall (spF3 P) [] E (tCons te (tCons tf (tCons tg tNil)))) σ H R :=
  er_call (ea_three h m h' m' h'' m'') fun vs H1 e ⟨v, w, z, hv, r, r', r''⟩ => by rw [hv]; exact sr3 (k v w z H1 e r r' r'')
/-- a call that may raise -/
theorem x_call1 {P : V → Hp → VP → WP → Prop} (h : ER te σ H R1) (m : Mono R1) (Q : VK) (k : ∀ v H1, Ex H H1 → R1 v H1 → ∃ R W, P v H1 R W ∧ (∀ w H2, Ex H1 H2 → R w H2 → Q w H2) ∧ ∀ C H2, Ex H1 H2 → W C → ∀ d, ErrAt K C d H2 → E (.ref C) (some d) H2) : tCall (spX1 K P) [] E (tCons te tNil) σ H Q :=
  ea_one h m H (Ex.refl H) _ fun vs H1 e ⟨v, hv, r⟩ => by
    subst hv
    obtain ⟨R, W, h1, h2, h3⟩ := k v H1 e r
    exact ⟨v, R, W, rfl, h1, h2, h3⟩
theorem x_call2 {P : V → V → Hp → VP → WP → Prop} (h : ER te σ H R1) (m : Mono R1) (h' : ER tf σ H R2) (m' : Mono R2) (Q : VK) (k : ∀ v v' H1, Ex H H1 → R1 v H1 → R2 v' H1 → ∃ R W, P v v' H1 R W ∧ (∀ w H2, Ex H1 H2 → R w H2 → Q w H2) ∧ ∀ C H2, Ex H1 H2 → W C → ∀ d, ErrAt K C d H2 → E (.ref C) (some d) H2) : tCall (spX2 K P) [] E (tCons te (tCons tf tNil)) σ H Q :=
  ea_two h m h' m' H (Ex.refl H) _ fun vs H1 e ⟨v, v', hv, r, r'⟩ => by
    subst hv
    obtain ⟨R, W, h1, h2, h3⟩ := k v v' H1 e r r'
    exact ⟨v, v', R, W, rfl, h1, h2, h3⟩
/-- the same in a try (the wish is told by the slots) -/
theorem xs_call1 {P : V → Hp → VP → WP → Prop} {ES : L2.St → XK} (h : ER te σ H R1) (m : Mono R1) (Q : VK) (k : ∀ v H1, Ex H H1 → R1 v H1 → ∃ R W, P v H1 R W ∧ (∀ w H2, Ex H1 H2 → R w H2 → Q w H2) ∧ ∀ C H2, Ex H1 H2 → W C → ∀ d, ErrAt K C d H2 → ES σ (.ref C) (some d) H2) : tCallS (spX1 K P) ES (tCons te tNil) σ H Q :=
  ea_one h m H (Ex.refl H) _ fun vs H1 e ⟨v, hv, r⟩ => by
    subst hv
    obtain ⟨R, W, h1, h2, h3⟩ := k v H1 e r
    exact ⟨v, R, W, rfl, h1, h2, h3⟩
theorem xs_call2 {P : V → V → Hp → VP → WP → Prop} {ES : L2.St → XK} (h : ER te σ H R1) (m : Mono R1) (h' : ER tf σ H R2) (m' : Mono R2) (Q : VK) (k : ∀ v v' H1, Ex H H1 → R1 v H1 → R2 v' H1 → ∃ R W, P v v' H1 R W ∧ (∀ w H2, Ex H1 H2 → R w H2 → Q w H2) ∧ ∀ C H2, Ex H1 H2 → W C → ∀ d, ErrAt K C d H2 → ES σ (.ref C) (some d) H2) : tCallS (spX2 K P) ES (tCons te (tCons tf tNil)) σ H Q :=
  ea_two h m h' m' H (Ex.refl H) _ fun vs H1 e ⟨v, v', hv, r, r'⟩ => by
    subst hv
    obtain ⟨R, W, h1, h2, h3⟩ := k v v' H1 e r r'
    exact ⟨v, v', R, W, rfl, h1, h2, h3⟩
theorem monoC {P : V → Prop} : Mono (fun v _ => P v) := fun _ _ _ _ h => h
theorem monoTC {P : V → Prop} : MonoT (fun v _ => P v) := fun _ _ _ _ h => h
theorem monoTrue : Mono (fun _ _ => True) := fun _ _ _ _ h => h
/-- while: a word that falls -/
theorem q_while' (W : Nat → L2.St → Hp → Prop) (m0 : Nat) (h0 : W m0 σ H)
    (hs : ∀ m σ' H', W m σ' H' → ∃ b, EvT t σ' H' b ∧ (b = true → ∀ H1, Ex H' H1 → tu { D with nx := fun σ2 H2 => ∃ m', m' < m ∧ W m' σ2 H2, ct := fun σ2 H2 => ∃ m', m' < m ∧ W m' σ2 H2, bk := tz D } σ' H1) ∧ (b = false → ∀ H1, Ex H' H1 → tz D σ' H1)) : tSeq (tWhile t tu) tz D σ H :=
  q_while W m0 h0 fun m σ' H' w => by
    obtain ⟨b, h1, h2, h3⟩ := hs m σ' H' w
    exact ⟨b, h1, fun hb H1 e => ⟨fun σ2 H2 => ∃ m', m' < m ∧ W m' σ2 H2, fun _ _ z => z, h2 hb H1 e⟩, h3⟩
end
/-! ### loops' steps -/
theorem nil_of_lst {H : Hp} {p : Addr} : ∀ b o, upd H p o b = upd H p o b := fun _ _ => rfl
end Sk
namespace Sk
open PySem L2 Evl
/-! ### lists whose items stand for the items of a list -/
def ItemsR {α : Type} (R : α → VP) (l : List α) (ys : List V) (H : Hp) : Prop := ys.length = l.length ∧ ∀ (i : Nat) (y : V) (a : α), ys[i]? = some y → l[i]? = some a → R a y H
section
variable {α : Type} {R R' : α → VP} {l l' : List α} {ys zs : List V} {H H' : Hp}
theorem ItemsR.nil : ItemsR R [] [] H := ⟨rfl, fun i y a h => by simp at h⟩
theorem ItemsR.tex (m : ∀ a, MonoT (R a)) (h : ItemsR R l ys H) (e : TEx H H') : ItemsR R l ys H' := ⟨h.1, fun i y a h1 h2 => m a y H H' e (h.2 i y a h1 h2)⟩
theorem ItemsR.ex (m : ∀ a, Mono (R a)) (h : ItemsR R l ys H) (e : Ex H H') : ItemsR R l ys H' := ⟨h.1, fun i y a h1 h2 => m a y H H' e (h.2 i y a h1 h2)⟩
theorem ItemsR.snoc {a : α} {y : V} (h : ItemsR R l ys H) (hy : R a y H) : ItemsR R (l ++ [a]) (ys ++ [y]) H := by
  refine ⟨by rw [List.length_append, List.length_append, h.1]; rfl, fun i z b h1 h2 => ?_⟩
  rcases Nat.lt_or_ge i ys.length with hi | hi
  · rw [List.getElem?_append_left hi] at h1
    rw [List.getElem?_append_left (by rw [← h.1]; exact hi)] at h2
    exact h.2 i z b h1 h2
  · rw [List.getElem?_append_right hi] at h1
    rw [List.getElem?_append_right (by rw [← h.1]; exact hi), ← h.1] at h2
    cases hq : i - ys.length with
    | zero => rw [hq] at h1 h2; cases h1; cases h2; exact hy
    | succ n => rw [hq] at h1; cases h1
theorem ItemsR.rev (h : ItemsR R l ys H) : ItemsR R l.reverse ys.reverse H := by
  refine ⟨by rw [List.length_reverse, List.length_reverse, h.1], fun i z b h1 h2 => ?_⟩
  have hi : i < ys.reverse.length := (List.getElem?_eq_some_iff.mp h1).1
  rw [List.length_reverse] at hi
  rw [List.getElem?_reverse hi] at h1
  rw [List.getElem?_reverse (by rw [← h.1]; exact hi), ← h.1] at h2
  exact h.2 _ z b h1 h2
theorem ItemsR.imp (h : ItemsR R l ys H) (k : ∀ a y, a ∈ l → R a y H → R' a y H) : ItemsR R' l ys H := ⟨h.1, fun i y a h1 h2 => k a y (List.mem_of_getElem? h2) (h.2 i y a h1 h2)⟩
theorem ItemsR.at {i : Nat} {a : α} (h : ItemsR R l ys H) (ha : l[i]? = some a) : ∃ y, ys[i]? = some y ∧ R a y H := by
  have hi : i < l.length := (List.getElem?_eq_some_iff.mp ha).1
  have hi2 : i < ys.length := by rw [h.1]; exact hi
  have hy : ys[i]? = some ys[i] := List.getElem?_eq_getElem hi2
  exact ⟨_, hy, h.2 i _ a hy ha⟩
theorem ItemsR.of_at {i : Nat} {y : V} (h : ItemsR R l ys H) (hy : ys[i]? = some y) : ∃ a, l[i]? = some a ∧ R a y H := by
  have hi : i < ys.length := (List.getElem?_eq_some_iff.mp hy).1
  have hi2 : i < l.length := by rw [← h.1]; exact hi
  have ha : l[i]? = some l[i] := List.getElem?_eq_getElem hi2
  exact ⟨_, ha, h.2 i y _ hy ha⟩
end
/-- ints -/
def IntI (n : Int) : VP := fun v _ => v = .int n
theorem ItemsR.ints {l : List Int} {ys : List V} {H : Hp} (h : ItemsR IntI l ys H) : ys = l.map V.int := by
  apply List.ext_getElem?
  intro i
  rw [List.getElem?_map]
  cases hy : ys[i]? with
  | none =>
    have : l[i]? = none := List.getElem?_eq_none (by rw [← h.1]; exact List.getElem?_eq_none_iff.mp hy)
    rw [this]; rfl
  | some y =>
    obtain ⟨a, ha, e⟩ := h.of_at hy
    rw [ha, Option.map_some, e]
/-- a pair of ints, as a tuple -/
def PairI (x : Int × Nat) : VP := fun v H => ∃ q, v = .ref q ∧ H q = some (.tup [.int x.1, .int (x.2 : Int)])
theorem pairI (x : Int × Nat) : MonoT (PairI x) := fun v H H' e ⟨q, h1, h2⟩ => ⟨q, h1, e q _ h2 True.intro⟩
/-- a list of them -/
def ListR {α : Type} (R : α → VP) (l : List α) : VP := fun v H => ∃ p ys, v = .ref p ∧ H p = some (.lst ys) ∧ ItemsR R l ys H
section
variable {H : Hp}
theorem ItemsR.set {α : Type} {R : α → VP} {l : List α} {ys : List V} {i : Nat} {a : α} {y : V} (h : ItemsR R l ys H) (hy : R a y H) : ItemsR R (l.set i a) (ys.set i y) H := by
  refine ⟨by rw [List.length_set, List.length_set, h.1], fun j z b h1 h2 => ?_⟩
  by_cases e : i = j
  · subst e
    have hlt : i < ys.length := by
      have := (List.getElem?_eq_some_iff.mp h1).1
      rw [List.length_set] at this; exact this
    rw [List.getElem?_set_self hlt] at h1
    rw [List.getElem?_set_self (by rw [← h.1]; exact hlt)] at h2
    cases h1; cases h2; exact hy
  · rw [List.getElem?_set_ne e] at h1 h2
    exact h.2 j z b h1 h2
theorem ItemsR.append {α : Type} {R : α → VP} {l l' : List α} {ys zs : List V} (h : ItemsR R l ys H) (h' : ItemsR R l' zs H) : ItemsR R (l ++ l') (ys ++ zs) H := by
  refine ⟨by rw [List.length_append, List.length_append, h.1, h'.1], fun i z b h1 h2 => ?_⟩
  rcases Nat.lt_or_ge i ys.length with hi | hi
  · rw [List.getElem?_append_left hi] at h1
    rw [List.getElem?_append_left (by rw [← h.1]; exact hi)] at h2
    exact h.2 i z b h1 h2
  · rw [List.getElem?_append_right hi] at h1
    rw [List.getElem?_append_right (by rw [← h.1]; exact hi), ← h.1] at h2
    exact h'.2 _ z b h1 h2
theorem ItemsR.take {α : Type} {R : α → VP} {l : List α} {ys : List V} (n : Nat) (h : ItemsR R l ys H) : ItemsR R (l.take n) (ys.take n) H := by
  refine ⟨by rw [List.length_take, List.length_take, h.1], fun i z b h1 h2 => ?_⟩
  rw [List.getElem?_take] at h1 h2
  split at h1
  · rename_i q
    rw [if_pos q] at h2
    exact h.2 i z b h1 h2
  · cases h1
theorem ItemsR.drop {α : Type} {R : α → VP} {l : List α} {ys : List V} (n : Nat) (h : ItemsR R l ys H) : ItemsR R (l.drop n) (ys.drop n) H := by
  refine ⟨by rw [List.length_drop, List.length_drop, h.1], fun i z b h1 h2 => ?_⟩
  rw [List.getElem?_drop] at h1 h2
  exact h.2 _ z b h1 h2
theorem ItemsR.ins {α : Type} {R : α → VP} {l : List α} {ys : List V} {a : α} {y : V} (n : Nat) (h : ItemsR R l ys H) (hy : R a y H) : ItemsR R (l.take n ++ [a] ++ l.drop n) (ys.take n ++ [y] ++ ys.drop n) H :=
  ((h.take n).append (ItemsR.snoc (l := []) .nil hy)).append (h.drop n)
end
end Sk

set_option Elab.async false
set_option linter.all false
set_option maxRecDepth 100000
set_option maxHeartbeats 2000000
namespace Sk
open PySem L2 Evl
/-- a def with defaults, where it stands -/
structure DefAtD (K : PySem.W.Frag) (mg : Str → Option Value) (x : Str) (st : Stmt) (ps : List Str) (dvs : List V) (f : Addr) (fd : FuncData) : Prop where
  fn : FunD K x x (defArgs st) (defBody st) (defScope st) dvs [] f fd
  m : mg x = some (.ref f)
  b : Binds K fd ps []
  b1 : ∃ ds, Vals dvs ds ∧ Binds K fd ps ds
theorem defD_mk {K : PySem.W.Frag} {mg : Str → Option Value} {x : Str} {st : Stmt} {ps : List Str} {i : Int} {tk : Tok} {n : Nat} {f T : Addr} {oc oc2 : Value} {od od2 an : Option Addr} {osl osl2 : Array (Option Value)} {kV doc pm cdv ct : Value}
    (hl : K.lookup f = some ⟨oc, od, .func (PySem.W.fnOf x x (defArgs st) (defBody st) (defScope st) (.ref T) kV doc pm an cdv ct), osl⟩) (hT : K.lookup T = some ⟨oc2, od2, .seq #[.int i tk] n, osl2⟩) (hc : PySem.W.codeIn K cdv x = true) (hk : PySem.W.keepIn K (.ref f) = true) (hm : mg x = some (.ref f)) (hps : ps.length = 2)
    (h2 : ∀ (T : Addr) (kV doc pm : Value) (an : Option Addr) (cdv ct : Value) (us its : List Value), us.length = 2 → its.length = 1 → ∃ k, bindArgs (PySem.W.fnOf x x (defArgs st) (defBody st) (defScope st) (.ref T) kV doc pm an cdv ct) ⟨us, []⟩ = seqItems? (.ref T) >>= k ∧ k (some its.toArray) = pure (ps.zip (us ++ List.drop 1 its)))
    (h1 : ∀ (T : Addr) (kV doc pm : Value) (an : Option Addr) (cdv ct : Value) (us its : List Value), us.length = 1 → its.length = 1 → ∃ k, bindArgs (PySem.W.fnOf x x (defArgs st) (defBody st) (defScope st) (.ref T) kV doc pm an cdv ct) ⟨us, []⟩ = seqItems? (.ref T) >>= k ∧ k (some its.toArray) = pure (ps.zip (us ++ List.drop 0 its))) :
    DefAtD K mg x st ps [.int i] f (PySem.W.fnOf x x (defArgs st) (defBody st) (defScope st) (.ref T) kV doc pm an cdv ct) := by
  have F : FunD K x x (defArgs st) (defBody st) (defScope st) [.int i] [] f (PySem.W.fnOf x x (defArgs st) (defBody st) (defScope st) (.ref T) kV doc pm an cdv ct) :=
    ⟨⟨oc, od, _, kV, doc, pm, an, cdv, ct, osl, rfl, hl, hc, .inr ⟨by simp, T, _, [.int i tk], n, rfl, hT, rfl, .cons ⟨tk, rfl⟩ .nil⟩, .inl rfl⟩, hk⟩
  refine ⟨F, hm, ?_, ?_⟩
  · obtain ⟨ds, g1, g2⟩ := F.binds1 (ps := ps) 2 1 (by simp) (by rw [hps]; rfl) h2
    cases g1
    exact g2
  · exact F.binds1 (ps := ps) 1 0 (by simp) (by rw [hps]; rfl) h1
theorem fn_vac {P : Program} {w : World} {K : PySem.W.Frag} {mg : Str → Option Value} {base : Heap} {CX : CXT} {k : Nat} {f : Addr} {fd : FuncData} {ps : List Str} {sp : Sp} (no : ∀ vs H Q E, ¬ sp vs H Q E) : FnOk P w K mg base CX k f fd ps sp := ⟨fun vs H Q E h => absurd h (no vs H Q E), fun A outer s H args us vs Q E _ _ _ _ h => absurd h (no vs H Q E)⟩
end Sk

set_option Elab.async false
set_option linter.all false
set_option maxRecDepth 100000
set_option maxHeartbeats 2000000
namespace Sk
open PySem L2 Evl
/-! ### the form of numbers: each exponent by two or more above the next -/
def T.lead : T → Int
  | .nil => -2
  | .cons _ e _ => e.val
def T.can : T → Prop
  | .nil => True
  | .cons s e r => ((s = 1 ∨ s = -1) ∧ 0 ≤ e.val ∧ r.lead + 2 ≤ e.val) ∧ e.can ∧ r.can
/-- the bounds of a number by its first exponent -/
theorem can_bounds : ∀ {t : T}, t.can → (3 * t.val ≤ 2 ^ (t.lead + 2).toNat - 1 ∧ -(2 ^ (t.lead + 2).toNat - 1) ≤ 3 * t.val) ∧
    ∀ s e r, t = .cons s e r → 2 ^ (e.val.toNat + 1) + 1 ≤ 3 * (s * t.val)
  | .nil, _ => ⟨⟨by decide, by decide⟩, fun s e r h => by cases h⟩
  | .cons s e r, ⟨⟨hs, he, hl⟩, _, hr⟩ => by
    obtain ⟨⟨b1, b2⟩, _⟩ := can_bounds hr
    have hp : (2 : Int) ^ (r.lead + 2).toNat ≤ 2 ^ e.val.toNat := by
      have h : (2 : Nat) ^ (r.lead + 2).toNat ≤ 2 ^ e.val.toNat := Nat.pow_le_pow_right (by decide) (by omega)
      exact_mod_cast h
    have e2 : (e.val + 2).toNat = e.val.toNat + 2 := by omega
    have p2 : (2 : Int) ^ (e.val.toNat + 2) = 4 * 2 ^ e.val.toNat := by rw [Int.pow_add]; omega
    have p1 : (2 : Int) ^ (e.val.toNat + 1) = 2 * 2 ^ e.val.toNat := by rw [Int.pow_add]; omega
    have hv : (T.cons s e r).val = s * 2 ^ e.val.toNat + r.val := rfl
    have hlead : (T.cons s e r).lead = e.val := rfl
    refine ⟨?_, fun s' e' r' h => ?_⟩
    · rw [hlead, e2, p2, hv]
      generalize (2 : Int) ^ e.val.toNat = P at *
      rcases hs with rfl | rfl <;> omega
    · cases h
      rw [p1, hv]
      generalize (2 : Int) ^ e.val.toNat = P at *
      rcases hs with rfl | rfl <;> omega
theorem can_pos {s : Int} {e r : T} (h : (T.cons s e r).can) : 0 < s * (T.cons s e r).val := by
  have h1 := (can_bounds h).2 s e r rfl
  have h2 : (0 : Int) < 2 ^ (e.val.toNat + 1) := Int.pow_pos (by decide)
  omega
theorem can_sgn : ∀ {t : T}, t.can → (t.sgn = 0 ∧ t.val = 0) ∨ (t.sgn = 1 ∧ 0 < t.val) ∨ (t.sgn = -1 ∧ t.val < 0)
  | .nil, _ => .inl ⟨rfl, rfl⟩
  | .cons s e r, h => by
    have hp := can_pos h
    rcases h.1.1 with rfl | rfl
    · exact .inr (.inl ⟨rfl, by omega⟩)
    · exact .inr (.inr ⟨rfl, by omega⟩)
theorem can_big {s : Int} {e r : T} (h : (T.cons s e r).can) : 2 ^ e.val.toNat < 2 * (T.cons s e r).val.natAbs ∧ 2 * r.val.natAbs < 2 ^ e.val.toNat := by
  have h1 := (can_bounds h).2 s e r rfl
  obtain ⟨⟨b1, b2⟩, _⟩ := can_bounds h.2.2
  have hl := h.1.2.2
  have he := h.1.2.1
  have hp : (2 : Int) ^ (r.lead + 2).toNat ≤ 2 ^ e.val.toNat := by
    have h : (2 : Nat) ^ (r.lead + 2).toNat ≤ 2 ^ e.val.toNat := Nat.pow_le_pow_right (by decide) (by omega)
    exact_mod_cast h
  have p1 : (2 : Int) ^ (e.val.toNat + 1) = 2 * 2 ^ e.val.toNat := by rw [Int.pow_add]; omega
  rw [p1] at h1
  have c : ((2 ^ e.val.toNat : Nat) : Int) = (2 : Int) ^ e.val.toNat := by norm_cast
  rcases h.1.1 with rfl | rfl
  · constructor <;> omega
  · constructor <;> omega
theorem pow_bl_gt (b : Nat) : b < 2 ^ bl b := lt_bl b
theorem can_none : ∀ {t : T} {b : Nat}, t.can → t.within b = none → 2 ^ b < t.val.natAbs
  | .nil, b, _, h => by cases h
  | .cons s e r, b, hc, h => by
    obtain ⟨g1, g2⟩ := can_big hc
    have he := hc.1.2.1
    have fin : b + 1 ≤ e.val.toNat → 2 ^ b < (T.cons s e r).val.natAbs := fun h1 => by
      have h2 : 2 ^ (b + 1) ≤ 2 ^ e.val.toNat := Nat.pow_le_pow_right (by decide) h1
      rw [Nat.pow_succ] at h2
      omega
    rw [T.within] at h
    cases hq : e.within (bl b) with
    | none =>
      have ih := can_none hc.2.1 hq
      have h3 := lt_bl b
      exact fin (by omega)
    | some q =>
      rw [hq] at h
      simp only at h
      have hqv := within_val _ _ _ hq
      split at h
      · rename_i hb
        exact fin (by omega)
      · cases hr : r.within b with
        | none =>
          have ih := can_none hc.2.2 hr
          omega
        | some z => rw [hr] at h; cases h
/-- from the list of the terms -/
theorem can_ofL : ∀ {l : List (Int × T)}, (∀ x ∈ l, (x.1 = 1 ∨ x.1 = -1) ∧ 0 ≤ x.2.val ∧ x.2.can) → l.Pairwise (fun x y => y.2.val + 2 ≤ x.2.val) → (ofL l).can
  | [], _, _ => True.intro
  | (s, e) :: r, h, hp => by
    have h0 := h (s, e) List.mem_cons_self
    have hp' := List.pairwise_cons.mp hp
    refine ⟨⟨h0.1, h0.2.1, ?_⟩, h0.2.2, can_ofL (fun x hx => h x (List.mem_cons_of_mem _ hx)) hp'.2⟩
    cases r with
    | nil => have := h0.2.1; show -2 + 2 ≤ e.val; exact this
    | cons y r => exact hp'.1 y List.mem_cons_self
theorem naf_gap : ∀ (k : Nat) (n : Int), n.natAbs ≤ k → ∀ p, (naf n p).Pairwise (fun x y => x.2 + 2 ≤ y.2)
  | 0, n, hk, p => by
    have : n = 0 := by omega
    subst this; rw [naf_zero]; exact List.Pairwise.nil
  | k + 1, n, hk, p => by
    by_cases h0 : n = 0
    · subst h0; rw [naf_zero]; exact List.Pairwise.nil
    rcases Int.emod_two_eq n with h | h
    · rw [naf_even h]
      exact naf_gap k _ (by omega) _
    · rw [naf_odd h]
      refine List.pairwise_cons.mpr ⟨fun y hy => ?_, ?_⟩
      · have hev : (n - (2 - n % 4)) / 2 % 2 = 0 := by omega
        rw [naf_even hev] at hy
        exact (naf_mem_ge _ _ (Nat.le_refl _) (p + 1 + 1) y hy).1
      · by_cases hz : (n - (2 - n % 4)) / 2 = 0
        · rw [hz, naf_zero]; exact List.Pairwise.nil
        · exact naf_gap k _ (by omega) _
theorem toT_can_aux : ∀ (k : Nat) (n : Int), n.natAbs ≤ k → (toT n).can
  | k, n, hk => by
    rw [toT_eq]
    refine can_ofL (fun x hx => ?_) ?_
    · obtain ⟨y, hy, rfl⟩ := List.mem_map.mp hx
      have hy := List.mem_reverse.mp hy
      have hlt := naf_lt hy
      refine ⟨naf_sign hy, by show 0 ≤ (toT (y.2 : Int)).val; rw [toT_val]; omega, ?_⟩
      cases k with
      | zero => omega
      | succ k => exact toT_can_aux k _ (by simp; omega)
    · rw [List.pairwise_map, List.pairwise_reverse]
      refine (naf_gap _ n (Nat.le_refl _) 0).imp fun {x y} h => ?_
      show (toT (x.2 : Int)).val + 2 ≤ (toT (y.2 : Int)).val
      rw [toT_val, toT_val]
      omega
theorem toT_can (n : Int) : (toT n).can := toT_can_aux _ n (Nat.le_refl _)
theorem pow_leI {a b : Nat} (h : a ≤ b) : (2 : Int) ^ a ≤ 2 ^ b := by
  have : (2 : Nat) ^ a ≤ 2 ^ b := Nat.pow_le_pow_right (by decide) h
  exact_mod_cast this
/-- the first exponent tells how great a number is -/
theorem lead_lt {s s' : Int} {e e' r r' : T} (h : (T.cons s e r).can) (h' : (T.cons s' e' r').can) (hl : e.val < e'.val) : s * (T.cons s e r).val < s' * (T.cons s' e' r').val ∧ -(s * (T.cons s e r).val) < s' * (T.cons s' e' r').val := by
  obtain ⟨⟨b1, b2⟩, b3⟩ := can_bounds h
  have c3 := (can_bounds h').2 s' e' r' rfl
  have he := h.1.2.1
  have hlead : (T.cons s e r).lead = e.val := rfl
  rw [hlead] at b1 b2
  have hp : (2 : Int) ^ (e.val + 2).toNat ≤ 2 ^ (e'.val.toNat + 1) := pow_leI (by omega)
  have hpos := can_pos h
  generalize (T.cons s e r).val = x at *
  generalize (T.cons s' e' r').val = y at *
  rcases h.1.1 with rfl | rfl
  · constructor <;> omega
  · constructor <;> omega
theorem can_uniq : ∀ {t u : T}, t.can → u.can → t.val = u.val → t = u
  | .nil, .nil, _, _, _ => rfl
  | .nil, .cons s e r, _, h, hv => by
    have := can_pos h
    rw [← hv] at this
    simp [T.val] at this
  | .cons s e r, .nil, h, _, hv => by
    have := can_pos h
    rw [hv] at this
    simp [T.val] at this
  | .cons s e r, .cons s' e' r', h, h', hv => by
    have p1 := can_pos h
    have p2 := can_pos h'
    have hs : s = s' := by
      rw [hv] at p1
      generalize (T.cons s' e' r').val = y at *
      rcases h.1.1 with rfl | rfl <;> rcases h'.1.1 with rfl | rfl <;> omega
    subst hs
    have hev : e.val = e'.val := by
      rcases Int.lt_trichotomy e.val e'.val with q | q | q
      · have := (lead_lt h h' q).1
        rw [hv] at this; omega
      · exact q
      · have := (lead_lt h' h q).1
        rw [hv] at this; omega
    have he := can_uniq h.2.1 h'.2.1 hev
    subst he
    have hr : r.val = r'.val := by
      have h1 : s * 2 ^ e.val.toNat + r.val = s * 2 ^ e.val.toNat + r'.val := hv
      omega
    rw [can_uniq h.2.2 h'.2.2 hr]
theorem can_eq {t : T} (h : t.can) : t = toT t.val := can_uniq h (toT_can _) (toT_val _).symm
end Sk

set_option Elab.async false
set_option linter.all false
set_option maxRecDepth 100000
set_option maxHeartbeats 2000000
namespace Sk
open PySem L2 Evl
/-! ### written tuples of the module, read as data -/
def kall (f : Value → Option PyData) : List Value → Option (List PyData)
  | [] => some []
  | v :: r => match f v, kall f r with
    | some d, some ds => some (d :: ds)
    | _, _ => none
def kdat (K : PySem.W.Frag) : Nat → Value → Option PyData
  | 0, _ => none
  | n + 1, .int i _ => some (.int i)
  | n + 1, .str x _ => some (.str x)
  | n + 1, .ref a => match K.lookup a with
    | some ⟨.type "tuple", none, .seq its _, _⟩ => if its.size ≤ 1000 then (kall (kdat K n) its.toList).map PyData.tuple else none
    | _ => none
  | _, _ => none
theorem kall_dp {K : PySem.W.Frag} {f : Value → Option PyData} (hf : ∀ v d, f v = some d → ∃ x, RelV x v ∧ ∀ H, Dp K H x d) : ∀ (vs : List Value) (ds : List PyData), kall f vs = some ds → ∃ xs, Vals xs vs ∧ ∀ H, DpAll K H xs ds
  | [], ds, h => by cases h; exact ⟨[], .nil, fun H => .nil⟩
  | v :: r, ds, h => by
    unfold kall at h
    split at h
    · rename_i d ds' h1 h2
      cases h
      obtain ⟨x, r1, d1⟩ := hf v d h1
      obtain ⟨xs, r2, d2⟩ := kall_dp hf r ds' h2
      exact ⟨x :: xs, .cons r1 r2, fun H => .cons (d1 H) (d2 H)⟩
    · cases h
theorem kdat_dp {K : PySem.W.Frag} : ∀ (n : Nat) (v : Value) (d : PyData), kdat K n v = some d → ∃ x, RelV x v ∧ ∀ H, Dp K H x d
  | 0, v, d, h => by cases h
  | n + 1, v, d, h => by
    unfold kdat at h
    split at h
    · cases h
    · cases h; exact ⟨.int _, ⟨_, rfl⟩, fun H => .int _⟩
    · cases h; exact ⟨.str _, ⟨_, rfl⟩, fun H => .str _⟩
    · rename_i n' a hn
      cases hn
      split at h
      · rename_i its z sl hk
        split at h
        · rename_i hz
          cases hq : kall (kdat K n) its.toList with
          | none => rw [hq] at h; cases h
          | some ds =>
            rw [hq] at h
            cases h
            obtain ⟨xs, r2, d2⟩ := kall_dp (kdat_dp n) _ _ hq
            exact ⟨.ref a, rfl, fun H => .tup (.inr ⟨_, its, z, hk, rfl, rfl, Nat.le_trans hz (by decide), r2⟩) (d2 H)⟩
        · cases h
      · cases h
    · cases h
theorem kdat_ref {K : PySem.W.Frag} {n : Nat} {a : Addr} {d : PyData} (h : kdat K n (.ref a) = some d) : ∀ H, Dp K H (.ref a) d := by
  obtain ⟨x, r, k⟩ := kdat_dp n _ d h
  cases x <;> first | (cases r; done) | (obtain ⟨_, r⟩ := r; cases r) | skip
  rename_i b
  cases r
  exact k
/-! ### numbers as data -/
theorem items_lay : ∀ t : T, PyData.canLayAll0 t.items = true
  | .nil => rfl
  | .cons s e r => by
    rw [T.items]
    simp [PyData.canLay0, PyData.canLayAll0, items_lay e, items_lay r]
theorem items_depth : ∀ t : T, PyData.depthAll t.items ≤ 2 * t.height + 1
  | .nil => by simp [T.items, PyData.depthAll]
  | .cons s e r => by
    have h1 := items_depth e
    have h2 := items_depth r
    have e1 : (T.cons s e r).height = max (e.height + 1) r.height := rfl
    rw [T.items]
    simp [PyData.depthAll, PyData.depth]
    omega
theorem items_eqv : ∀ t u : T, PyData.eqvAll t.items u.items = decide (t = u)
  | .nil, .nil => by rw [T.items, PyData.eqvAll]; rfl
  | .nil, .cons s e r => by rw [T.items, T.items, PyData.eqvAll]; exact (decide_eq_false (fun q => by cases q)).symm
  | .cons s e r, .nil => by rw [T.items, T.items, PyData.eqvAll]; exact (decide_eq_false (fun q => by cases q)).symm
  | .cons s e r, .cons s' e' r' => by
    rw [T.items, T.items, PyData.eqvAll, PyData.eqv, PyData.eqvAll, PyData.eqv, PyData.eqvAll, PyData.eqv, PyData.eqvAll, items_eqv e e', items_eqv r r', Bool.eq_iff_iff]
    simp
    constructor
    · rintro ⟨⟨h1, h2⟩, h3⟩; exact ⟨h1, h2, h3⟩
    · rintro ⟨h1, h2, h3⟩; exact ⟨⟨h1, h2⟩, h3⟩
theorem data_lay (t : T) : t.data.canLay0 = true := by
  unfold T.data
  rw [PyData.canLay0]; exact items_lay t
theorem data_depth (t : T) : t.data.depth ≤ 2 * t.height + 2 := by
  unfold T.data
  rw [PyData.depth]
  have := items_depth t
  omega
theorem data_eqv (t u : T) : t.data.eqv u.data = decide (t = u) := by
  unfold T.data
  rw [PyData.eqv]; exact items_eqv t u
/-- the first eight numbers -/
def firstT : List T := [.nil, ofL [(1, .nil)], ofL [(1, ofL [(1, .nil)])], ofL [(1, ofL [(1, ofL [(1, .nil)])]), (-1, .nil)], ofL [(1, ofL [(1, ofL [(1, .nil)])])], ofL [(1, ofL [(1, ofL [(1, .nil)])]), (1, .nil)],
  ofL [(1, ofL [(1, ofL [(1, ofL [(1, .nil)])]), (-1, .nil)]), (-1, ofL [(1, .nil)])], ofL [(1, ofL [(1, ofL [(1, ofL [(1, .nil)])]), (-1, .nil)]), (-1, .nil)]]
theorem first_can : ∀ t ∈ firstT, t.can := by
  intro t h
  simp only [firstT, List.mem_cons, List.not_mem_nil, or_false] at h
  rcases h with rfl | rfl | rfl | rfl | rfl | rfl | rfl | rfl <;> simp [ofL, T.can, T.lead, T.val]
theorem first_val : firstT.map T.val = (List.range 8).map fun i : Nat => (i : Int) := by decide +kernel
theorem first_eq : firstT = (List.range 8).map fun i : Nat => toT (i : Int) := by
  apply List.ext_getElem?
  intro i
  have hv := congrArg (fun l => l[i]?) first_val
  simp only [List.getElem?_map] at hv ⊢
  cases h1 : firstT[i]? with
  | none =>
    rw [h1] at hv
    cases h2 : (List.range 8)[i]? with
    | none => rfl
    | some j => rw [h2] at hv; cases hv
  | some t =>
    rw [h1] at hv
    cases h2 : (List.range 8)[i]? with
    | none => rw [h2] at hv; cases hv
    | some j =>
      rw [h2] at hv
      have hv' : t.val = (j : Int) := Option.some.inj hv
      exact congrArg some (can_uniq (first_can t (List.mem_of_getElem? h1)) (toT_can _) (by rw [hv', toT_val]))
theorem first_at {i : Nat} (h : i < 8) : firstT[i]? = some (toT (i : Int)) := by
  rw [first_eq, List.getElem?_map, List.getElem?_range h]; rfl
def firstD : PyData := .tuple (firstT.map T.data)
/-- a written tuple -/
def TupAt (K : PySem.W.Frag) (a : Addr) : Prop := ∃ o, K.lookup a = some o ∧ o.cls = .type "tuple" ∧ o.dict = none
theorem kdat_tup {K : PySem.W.Frag} {n : Nat} {a : Addr} {d : PyData} (h : kdat K n (.ref a) = some d) : TupAt K a := by
  cases n with
  | zero => cases h
  | succ n =>
    unfold kdat at h
    split at h
    · rename_i its z sl hk
      exact ⟨_, hk, rfl, rfl⟩
    · cases h
/-- the written tuple at a is that of the first numbers -/
def FirstAt (K : PySem.W.Frag) (a : Addr) : Prop := (∀ H, Dp K H (.ref a) firstD) ∧ TupAt K a
theorem first_mk {K : PySem.W.Frag} {n : Nat} {a : Addr} (h : kdat K n (.ref a) = some firstD) : FirstAt K a := ⟨kdat_ref h, kdat_tup h⟩
theorem FirstAt.out {K : PySem.W.Frag} {a : Addr} (h : FirstAt K a) (H : Hp) : ∃ xs, SqT K H a xs ∧ ItemsR (fun t v H => NumV K H v t) firstT xs H := by
  have h1 := h.1 H
  unfold firstD at h1
  cases h1 with
  | tup hs hd =>
    rename_i xs
    refine ⟨xs, hs, ?_⟩
    have key : ∀ (l : List T) (xs : List V), DpAll K H xs (l.map T.data) → ItemsR (fun t v H => NumV K H v t) l xs H := by
      intro l
      induction l with
      | nil => intro xs h; cases h; exact .nil
      | cons t r ih =>
        intro xs h
        cases h with
        | cons g1 g2 =>
          have := ih _ g2
          refine ⟨by rw [List.length_cons, List.length_cons, this.1], fun i y a h1 h2 => ?_⟩
          cases i with
          | zero => simp at h1 h2; subst h1 h2; exact g1
          | succ i => simp at h1 h2; exact this.2 i y a h1 h2
    exact key _ _ hd
end Sk

set_option Elab.async false
set_option linter.all false
set_option maxRecDepth 100000
set_option maxHeartbeats 2000000
namespace Sk
open PySem L2 Evl
/-! ### signed_places -/
def pSigned : V → Hp → VP → Prop := fun x H R => ∃ (n : Int) (k : Nat), x = .int n ∧ k ≤ 70000 ∧ n.natAbs ≤ 2 ^ k ∧ R = ListR PairI (naf n 0)
def sp_signed_places (K : PySem.W.Frag) : Sp := spF1 pSigned
/-- n & -n -/
def xLow : R2 := fun x y H Q => ∃ (k : Nat) (a : Int), x = .int (2 ^ k * (2 * a + 1)) ∧ y = .int (-(2 ^ k * (2 * a + 1))) ∧ Q (.int (2 ^ k)) H
theorem op_low {X : Cx} : OpR X (binaryOp .BitAnd) xLow := fun pins s σ H x y v u Q I rx ry h => by
  obtain ⟨k, a, rfl, rfl, q⟩ := h
  rw [← PySem.W.kbt_low k a] at q
  exact op_and pins s σ H _ _ v u Q I rx ry ⟨_, _, rfl, rfl, q⟩
def t_signed_places (K : PySem.W.Frag) : TS := (tSeq (tAsg (tLst tNil) (gName 1))
    (tSeq (tAsg (tC (.int 0)) (gName 2))
    (tSeq (tWhile (tTest (tOp rNe (tVar 0) (tC (.int 0)))) (tSeq (tAsg (tOp xSub (tBits (tOp xLow (tVar 0) (tUn xNeg (tVar 0)))) (tC (.int 1))) (gName 3))
    (tSeq (tAug 2 (tVar 3) (ipI fun i j => i + j))
    (tSeq (tAug 0 (tVar 3) xShr)
    (tSeq (tAsg (tOp xSub (tC (.int 2)) (tOp xAndM (tVar 0) (tC (.int 3)))) (gName 4))
    (tSeq (tDrop (tBM K "list" rAppend (tVar 1) (tCons (tTup (tCons (tVar 4) (tCons (tVar 2) tNil))) tNil)))
    (tAug 0 (tVar 4) (ipI fun i j => i - j))))))))
    (tRet (tVar 1)))))
theorem naf_len : ∀ (k : Nat) (n : Int) (p : Nat), n.natAbs ≤ 2 ^ k → (naf n p).length ≤ k + 1
  | 0, n, p, h => by
    have h' : n = 0 ∨ n = 1 ∨ n = -1 := by simp at h; omega
    rcases h' with rfl | rfl | rfl
    · rw [naf_zero]; exact Nat.zero_le _
    · rw [naf_odd (by decide), show ((1 : Int) - (2 - 1 % 4)) / 2 = 0 by decide, naf_zero]; exact Nat.le_refl _
    · rw [naf_odd (by decide), show ((-1 : Int) - (2 - -1 % 4)) / 2 = 0 by decide, naf_zero]; exact Nat.le_refl _
  | k + 1, n, p, h => by
    rw [Nat.pow_succ] at h
    rcases Int.emod_two_eq n with q | q
    · rw [naf_even q]
      exact Nat.le_trans (naf_len k (n / 2) (p + 1) (by omega)) (by omega)
    · rw [naf_odd q, List.length_cons]
      have h1 : 0 < 2 ^ k := Nat.two_pow_pos k
      exact Nat.succ_le_succ (naf_len k _ (p + 1) (by omega))
theorem naf_shift (m : Int) : ∀ (k p : Nat), naf (2 ^ k * m) p = naf m (p + k)
  | 0, p => by rw [Int.pow_zero, Int.one_mul]; rfl
  | k + 1, p => by
    have e : (2 : Int) ^ (k + 1) * m = 2 * (2 ^ k * m) := by rw [Int.pow_succ, Int.mul_comm (2 ^ k) 2, Int.mul_assoc]
    rw [e, naf_even (by omega)]
    have e2 : 2 * (2 ^ k * m) / 2 = 2 ^ k * m := by omega
    rw [e2, naf_shift m k (p + 1)]
    congr 1
    omega
theorem odd_part : ∀ (j : Nat) (n : Int), n.natAbs ≤ j → n ≠ 0 → ∃ (k : Nat) (a : Int), n = 2 ^ k * (2 * a + 1)
  | 0, n, h, h0 => absurd (by omega) h0
  | j + 1, n, h, h0 => by
    rcases Int.emod_two_eq n with q | q
    · obtain ⟨k, a, e⟩ := odd_part j (n / 2) (by omega) (by omega)
      refine ⟨k + 1, a, ?_⟩
      rw [Int.pow_succ, Int.mul_comm (2 ^ k) 2, Int.mul_assoc, ← e]
      omega
    · exact ⟨0, n / 2, by rw [Int.pow_zero, Int.one_mul]; omega⟩
theorem ip_shr {X : Cx} : PIp X .RShift xShr := fun pins s σ H x y v u Q I r1 r2 h => iop_shr pins s σ H x y v u Q I r1 r2 h
theorem bits_two_pow (k : Nat) : Builtin.Int.intBits ((2 : Int) ^ k) = k + 1 := by
  unfold Builtin.Int.intBits
  have h : ((2 : Int) ^ k).natAbs = 2 ^ k := by rw [Int.natAbs_pow]; rfl
  have h0 : (2 : Int) ^ k ≠ 0 := Int.pow_ne_zero (by decide)
  rw [h, Nat.log2_two_pow]
  split
  · rename_i q
    have : (2 : Nat) ^ k ≠ 0 := Nat.pos_iff_ne_zero.mp (Nat.two_pow_pos k)
    simp at q
    first | exact absurd q h0 | exact absurd q this
  · rfl
theorem q_shr {σ : L2.St} {H : Hp} {D : Ends} {tz : TS} {i : Nat} {a : Int} {k : Nat} {te : TE} (hx : σ[i]? = some (some (.int a))) (h : Ev te σ H (.int (k : Int))) (n : ∀ H1, Ex H H1 → tz D (σ.set i (some (.int (a / 2 ^ k)))) H1) : tSeq (tAug i te xShr) tz D σ H :=
  ⟨.int a, hx, h H (Ex.refl H) _ fun H1 e => ⟨a, (k : Int), rfl, rfl, by omega, n H1 e⟩⟩
def WSigned (n : Int) (l : Addr) (H0 : Hp) (m : Nat) (σ : L2.St) (H : Hp) : Prop := ∃ (r : Int) (p : Nat) (z z' : Option V) (ys : List V) (acc : List (Int × Nat)),
  σ = [some (.int r), some (.ref l), some (.int (p : Int)), z, z'] ∧ m = (naf r p).length ∧ H0 l = none ∧ Ex H0 H ∧ H l = some (.lst ys) ∧ ItemsR PairI acc ys H ∧ acc ++ naf r p = naf n 0
theorem pure_signed_places {K : PySem.W.Frag} {vs : List V} {H : Hp} {Q : VK} {E : XK} (h : sp_signed_places K vs H Q E) : t_signed_places K { nx := fun _ H' => Q .non H', rt := Q } (start ["value", "found", "place", "zeros", "sign"] vs) H := by
  obtain ⟨x, R, rfl, ⟨n, kb, rfl, hkb, hb, rfl⟩, k⟩ := h
  have hlen := naf_len _ n 0 hb
  refine q_asgL (el_lst ea_nil (by decide)) fun l H1 hl e1 h1 => ?_
  refine q_asg ev_c fun H2 e2 => ?_
  refine q_while' (WSigned n l H) (naf n 0).length ⟨n, 0, none, none, [], [], rfl, rfl, hl, e1.trans e2, e2 l _ h1, .nil, rfl⟩ ?_
  rintro m σ' H' ⟨r, p, z, z', ys, acc, rfl, rfl, hl0, e3, h3, h4, h5⟩
  refine ⟨!decide (V.int r = V.int 0), et_test (ev_ne (ev_var rfl) ev_c rfl), fun hb1 H4 e4 => ?_, fun hb1 H4 e4 => ?_⟩
  · have hr : r ≠ 0 := fun q => by subst q; simp at hb1
    obtain ⟨kk, a, hra⟩ := odd_part _ r (Nat.le_refl _) hr
    have hys : ys.length < 100000 := by
      have := congrArg List.length h5
      rw [List.length_append, ← h4.1] at this
      omega
    have hodd : (2 * a + 1) % 2 = 1 := by omega
    have hnaf : naf r p = (2 - (2 * a + 1) % 4, p + kk) :: naf (2 * a + 1 - (2 - (2 * a + 1) % 4)) (p + kk) := by
      rw [hra, naf_shift, naf_odd hodd, naf_even (n := 2 * a + 1 - (2 - (2 * a + 1) % 4)) (by omega)]
    have hq : r / 2 ^ kk = 2 * a + 1 := by
      rw [hra]
      exact Int.mul_ediv_cancel_left _ (Int.pow_ne_zero (by decide))
    have low : Ev (tOp xLow (tVar 0) (tUn xNeg (tVar 0))) [some (V.int r), some (.ref l), some (.int (p : Int)), z, z'] H4 (.int (2 ^ kk)) := ev_op (ev_var rfl) (ev_neg (ev_var rfl)) fun H1 _ Q q => ⟨kk, a, by rw [hra], by rw [hra], q H1 (Ex.refl H1)⟩
    refine q_asg (v := .int (kk : Int)) (ev_is (ev_sub (ev_bits low) ev_c) (by rw [bits_two_pow]; congr 1; omega)) fun H5 e5 => ?_
    refine q_aug (a := (p : Int)) (b := (kk : Int)) rfl (ev_var rfl) fun H6 e6 => ?_
    refine q_shr (a := r) (k := kk) rfl (ev_var rfl) fun H7 e7 => ?_
    rw [hq]
    refine q_asg (ev_sub ev_c (ev_andM (k := 2) (ev_var rfl) ev_c)) fun H8 e8 => ?_
    have e48 : Ex H' H8 := e4.trans (e5.trans (e6.trans (e7.trans e8)))
    refine q_appU (ys := [.int (2 - (2 * a + 1) % 2 ^ 2), .int ((p : Int) + (kk : Int))]) (e48 l _ h3) (ev_var rfl) (eu_tup (ea_cons (ev_var rfl) (ea_cons (ev_var rfl) ea_nil)) (by show 2 ≤ 100000; decide)) hys fun q H9 hq9 e9 h9 => ?_
    have e49 := e48.trans e9
    have hlt : TEx H9 (upd H9 l (.lst (ys ++ [V.ref q]))) := TEx.put (e49 l _ h3)
    have e22 : (2 : Int) ^ 2 = 4 := by decide
    have hnl : q ≠ l := fun e => by rw [e, e49 l _ h3] at h9; cases h9
    refine s_aug (a := 2 * a + 1) (b := 2 - (2 * a + 1) % 2 ^ 2) rfl (ev_var rfl) fun H10 e10 => ?_
    refine ⟨(naf (2 * a + 1 - (2 - (2 * a + 1) % 4)) (p + kk)).length, by rw [hnaf, List.length_cons]; exact Nat.lt_succ_self _, 2 * a + 1 - (2 - (2 * a + 1) % 4), p + kk, some (.int (kk : Int)), some (.int (2 - (2 * a + 1) % 2 ^ 2)), ys ++ [V.ref q], acc ++ [(2 - (2 * a + 1) % 4, p + kk)], by rw [e22]; rfl, rfl, hl0, (Ex.mut (e3.trans e49) hl0).trans e10, e10 l _ upd_same, ?_, by rw [← h5, hnaf, List.append_assoc]; rfl⟩
    refine ItemsR.tex pairI (H := upd H9 l (.lst (ys ++ [V.ref q]))) ?_ (Ex.t e10)
    exact (h4.tex pairI ((Ex.t e49).trans hlt)).snoc ⟨q, rfl, by rw [upd_ne hnl, h9, e22]; rfl⟩
  · have hr : r = 0 := by simpa using hb1
    subst hr
    rw [naf_zero, List.append_nil] at h5
    subst h5
    refine s_ret (ev_var rfl) fun H5 e5 => k _ _ ((e3.trans e4).trans e5) ⟨l, ys, rfl, e5 l _ (e4 l _ h3), h4.tex pairI (Ex.t (e4.trans e5))⟩
end Sk

set_option Elab.async false
set_option linter.all false
set_option maxRecDepth 100000
set_option maxHeartbeats 2000000
namespace Sk
open PySem L2 Evl
/-! ### bare_number -/
/-- how great a number may be for d calls, one in another -/
def Cb : Nat → Nat
  | 0 => 0
  | 1 => 1
  | d + 2 => 2 ^ (Cb (d + 1) - 1) + 1
theorem Cb_pos : ∀ d, 1 ≤ Cb (d + 1)
  | 0 => Nat.le_refl _
  | d + 1 => Nat.le_add_left 1 _
theorem Cb_step {d : Nat} {n : Int} (h : n.natAbs < Cb (d + 1)) {x : Int × Nat} (hx : x ∈ naf n 0) : x.2 < Cb d := by
  cases d with
  | zero =>
    have : n = 0 := by
      have : n.natAbs < 1 := h
      omega
    subst this; rw [naf_zero] at hx; cases hx
  | succ d =>
    have h' : n.natAbs < 2 ^ (Cb (d + 1) - 1) + 1 := h
    have := naf_le (m := Cb (d + 1) - 1) (by omega) hx
    have := Cb_pos d
    omega
theorem Cb7 : Cb 7 = 2 ^ 65536 + 1 := by
  have h3 : Cb 3 = 3 := by decide
  have h4 : Cb 4 = 5 := by show 2 ^ (Cb 3 - 1) + 1 = 5; rw [h3] <;> rfl
  have h5 : Cb 5 = 17 := by show 2 ^ (Cb 4 - 1) + 1 = 17; rw [h4] <;> rfl
  have h6 : Cb 6 = 65537 := by show 2 ^ (Cb 5 - 1) + 1 = 65537; rw [h5] <;> rfl
  show 2 ^ (Cb 6 - 1) + 1 = 2 ^ 65536 + 1
  rw [h6]
theorem Cb7_ge : 2 ^ 65536 ≤ Cb 7 := by
  rw [Cb7]
  exact Nat.le_add_right _ _
theorem lt_Cb7 {m k : Nat} (h : m < 2 ^ k) (hk : k ≤ 65536) : m < Cb 7 := Nat.lt_of_lt_of_le h (Nat.le_trans (Nat.pow_le_pow_right (by decide) hk) Cb7_ge)
theorem Cb_mono : ∀ d, Cb d ≤ Cb (d + 1)
  | 0 => by decide
  | 1 => by decide
  | d + 2 => by
    have h := Cb_mono (d + 1)
    show 2 ^ (Cb (d + 1) - 1) + 1 ≤ 2 ^ (Cb (d + 2) - 1) + 1
    exact Nat.succ_le_succ (Nat.pow_le_pow_right (by decide) (Nat.sub_le_sub_right h 1))
theorem Cb_le : ∀ {d : Nat}, d ≤ 7 → Cb d ≤ 2 ^ 65536 + 1 := fun {d} h => by
  rw [← Cb7]
  have : ∀ k, Cb d ≤ Cb (d + k) := fun k => by
    induction k with
    | zero => exact Nat.le_refl _
    | succ k ih => exact Nat.le_trans ih (Cb_mono _)
  have h2 := this (7 - d)
  rw [show d + (7 - d) = 7 by omega] at h2
  exact h2
def pBare (K : PySem.W.Frag) (d : Nat) : V → Hp → VP → Prop := fun x H R => ∃ n : Int, x = .int n ∧ n.natAbs < Cb d ∧ d ≤ 7 ∧ R = fun v H' => NumV K H' v (toT n)
def sp_bare_number (K : PySem.W.Frag) (d : Nat) : Sp := spF1 (pBare K d)
def t_bare_number (K : PySem.W.Frag) (a_FIRST_NUMBERS : Addr) (d : Nat) : TS := (tSeq (tIfS (tTest (tChain xLe xLt (tC (.int 0)) (tVar 0) (tC (.int 8)))) (tRet (tOp (rIxT K) (tC (.ref a_FIRST_NUMBERS)) (tVar 0))) tNext)
    (tRet (tThen (tLc (iList K (tRevL K (tCall (sp_signed_places K) [] E0 (tCons (tVar 0) tNil)))) (gTup K 2 (gCons (gName 1) (gCons (gName 2) gNil))) tYes (tTup (tCons (tVar 1) (tCons (tCall (sp_bare_number K d) [] E0 (tCons (tVar 2) tNil)) tNil))) [1, 2]) (kTup K))))
/-- a term: a sign and a number -/
def TermI (K : PySem.W.Frag) (x : Int × T) : VP := fun v H => ∃ q w, v = .ref q ∧ SqT K H q [.int x.1, w] ∧ NumV K H w x.2
theorem termI {K : PySem.W.Frag} (x : Int × T) : MonoT (TermI K x) := fun v H H' e ⟨q, w, h1, h2, h3⟩ => ⟨q, w, h1, tex_sqt e h2, h3.tex e⟩
theorem termIm {K : PySem.W.Frag} {x : Int × T} : Mono (TermI K x) := (termI x).mono
theorem terms_items {K : PySem.W.Frag} {l : List (Int × T)} {ys : List V} {H : Hp} (h : ItemsR (TermI K) l ys H) : TermsV K H ys (ofL l) :=
  TermsV.of h.1 fun i x s e h1 h2 => by
    obtain ⟨q, w, g1, g2, g3⟩ := h.2 i x (s, e) h1 h2
    exact ⟨q, w, g1, g2, g3⟩
theorem items_terms {K : PySem.W.Frag} {t : T} {ys : List V} {H : Hp} (h : TermsV K H ys t) : ItemsR (TermI K) t.toL ys H :=
  ⟨h.len, fun i y x h1 h2 => by
    obtain ⟨p, s, e, w, g1, g2, g3, g4⟩ := h.get h1
    rw [h2] at g2
    cases g2
    exact ⟨p, w, g1, g3, g4⟩⟩
section
variable {K : PySem.W.Frag} {σ : L2.St} {H : Hp} {te tl : TE} {g : TG} {vs : List Nat}
/-- a comprehension over a list whose items stand for l, its own items standing for l too -/
theorem er_lcI {α : Type} {R1 R2 : α → VP} {l : List α} (hsrc : ER tl σ H (fun v H2 => ∃ a xs, v = .ref a ∧ SqL K H2 a xs ∧ ItemsR R1 l xs H2)) (m1 : ∀ a, Mono (R1 a)) (m2 : ∀ a, MonoT (R2 a)) (hz : l.length < 100000)
    (hb : ∀ (i : Nat) (a : α) x H1, l[i]? = some a → R1 a x H1 → Ex H H1 → ∀ Qk : VK, (∀ v H2, Ex H1 H2 → R2 a v H2 → Qk v H2) → g x (wipe σ vs) H1 fun σ2 H2 => wipe σ2 vs = wipe σ vs ∧ te σ2 H2 Qk) :
    ER (tLc (iList K tl) g tYes te vs) σ H (fun v H2 => ∃ p ys, v = .ref p ∧ H p = none ∧ H2 p = some (.lst ys) ∧ ItemsR R2 l ys H2) :=
  (er_lcL (S := fun xs H2 => ItemsR R1 l xs H2) (R := fun xs i v H2 => ∀ a, l[i]? = some a → R2 a v H2) hsrc (fun _ _ _ e h => h.ex m1 e) (fun xs H2 h => by rw [h.1]; exact hz) (fun xs i v H1 H2 e h a ha => m2 a v H1 H2 e (h a ha))
    (fun xs i x H1 hi e hS Qk q => by
      obtain ⟨a, ha, r⟩ := hS.of_at hi
      exact hb i a x H1 ha r e Qk fun v H2 e2 r2 => q v H2 e2 fun b hb => by rw [ha] at hb; cases hb; exact r2)).imp
    fun v H2 e ⟨p, xs, ys, h1, h2, h3, h4, h5, h6⟩ => ⟨p, ys, h1, h2, h3, h5.trans h4.1, fun i y a g1 g2 => h6 i y g1 a g2⟩
theorem er_lcIT {α : Type} {R1 R2 : α → VP} {l : List α} (hsrc : ER tl σ H (fun v H2 => ∃ a xs, v = .ref a ∧ SqT K H2 a xs ∧ ItemsR R1 l xs H2)) (m1 : ∀ a, Mono (R1 a)) (m2 : ∀ a, MonoT (R2 a)) (hz : l.length < 100000)
    (hb : ∀ (i : Nat) (a : α) x H1, l[i]? = some a → R1 a x H1 → Ex H H1 → ∀ Qk : VK, (∀ v H2, Ex H1 H2 → R2 a v H2 → Qk v H2) → g x (wipe σ vs) H1 fun σ2 H2 => wipe σ2 vs = wipe σ vs ∧ te σ2 H2 Qk) :
    ER (tLc (iTup K tl) g tYes te vs) σ H (fun v H2 => ∃ p ys, v = .ref p ∧ H p = none ∧ H2 p = some (.lst ys) ∧ ItemsR R2 l ys H2) :=
  (er_lcT (S := fun xs H2 => ItemsR R1 l xs H2) (R := fun xs i v H2 => ∀ a, l[i]? = some a → R2 a v H2) hsrc (fun _ _ _ e h => h.ex m1 e) (fun xs H2 h => by rw [h.1]; exact hz) (fun xs i v H1 H2 e h a ha => m2 a v H1 H2 e (h a ha))
    (fun xs i x H1 hi e hS Qk q => by
      obtain ⟨a, ha, r⟩ := hS.of_at hi
      exact hb i a x H1 ha r e Qk fun v H2 e2 r2 => q v H2 e2 fun b hb => by rw [ha] at hb; cases hb; exact r2)).imp
    fun v H2 e ⟨p, xs, ys, h1, h2, h3, h4, h5, h6⟩ => ⟨p, ys, h1, h2, h3, h5.trans h4.1, fun i y a g1 g2 => h6 i y g1 a g2⟩
/-- tuple(e), e a list -/
theorem er_tupleOf {R : List V → Hp → Prop} (h : ER te σ H (fun v H2 => ∃ p ys, v = .ref p ∧ SqL K H2 p ys ∧ R ys H2)) (m : MonoL R) : ER (tThen te (kTup K)) σ H (fun v H2 => ∃ p ys, v = .ref p ∧ H2 p = some (.tup ys) ∧ R ys H2) := fun H1 e Q q =>
  h H1 e _ fun v H2 e2 ⟨p, ys, h1, h2, h3⟩ => .inl ⟨p, ys, h1, h2, fun r hr => q _ _ (e2.trans (Ex.new hr)) ⟨r, ys, rfl, upd_same, m ys _ _ (Ex.new hr) h3⟩⟩
theorem er_revL {R : List V → Hp → Prop} (h : ER te σ H (fun v H2 => ∃ p ys, v = .ref p ∧ SqL K H2 p ys ∧ R ys H2)) (m : MonoL R) : ER (tRevL K te) σ H (fun v H2 => ∃ p ys, v = .ref p ∧ SqL K H2 p ys.reverse ∧ R ys H2) := fun H1 e Q q =>
  h H1 e _ fun v H2 e2 ⟨p, ys, h1, h2, h3⟩ => ⟨p, ys, h1, h2, fun r hr => q _ _ (e2.trans (Ex.new hr)) ⟨r, ys, rfl, sq_of upd_same, m ys _ _ (Ex.new hr) h3⟩⟩
end
theorem et_chainI {K : PySem.W.Frag} {σ : L2.St} {H : Hp} {ta tb tc : TE} {i j k : Int} (ha : Ev ta σ H (.int i)) (hb : Ev tb σ H (.int j)) (hc : Ev tc σ H (.int k)) : EvT (tTest (tChain xLe xLt ta tb tc)) σ H (decide (i ≤ j) && decide (j < k)) := fun H1 e Q q =>
  ha H1 e _ fun H2 e2 => hb H2 (e.trans e2) _ fun H3 e3 => ⟨i, j, rfl, rfl, decide (i ≤ j), rfl, by
    by_cases h : i ≤ j
    · rw [if_pos (decide_eq_true h)]
      refine hc H3 (e.trans (e2.trans e3)) _ fun H4 e4 => ⟨j, k, rfl, rfl, decide (j < k), rfl, ?_⟩
      have := q H4 (e2.trans (e3.trans e4))
      rw [decide_eq_true h, Bool.true_and] at this
      exact this
    · rw [if_neg (by rw [decide_eq_false h]; decide)]
      refine ⟨false, rfl, ?_⟩
      have := q H3 (e2.trans e3)
      rw [decide_eq_false h, Bool.false_and] at this
      exact this⟩
theorem pure_bare_number {K : PySem.W.Frag} {a_FIRST_NUMBERS : Addr} (hF : FirstAt K a_FIRST_NUMBERS) {d : Nat} {vs : List V} {H : Hp} {Q : VK} {E : XK} (h : sp_bare_number K (d + 1) vs H Q E) : t_bare_number K a_FIRST_NUMBERS d { nx := fun _ H' => Q .non H', rt := Q } (start ["value", "sign", "place"] vs) H := by
  obtain ⟨x, R, rfl, ⟨n, rfl, hb, hd, rfl⟩, k⟩ := h
  have hn : n.natAbs ≤ 2 ^ 65536 := by have := Cb_le hd; omega
  have hlen := naf_len _ n 0 hn
  refine q_when (et_chainI (K := K) ev_c (ev_var rfl) ev_c) (fun hc H0 e0 => ?_) (fun hc H0 e0 => ?_)
  · rw [Bool.and_eq_true, decide_eq_true_eq, decide_eq_true_eq] at hc
    obtain ⟨m, rfl⟩ : ∃ m : Nat, n = (m : Int) := ⟨n.toNat, by omega⟩
    obtain ⟨xs, hs, hit⟩ := hF.out H0
    obtain ⟨y, hy, hN⟩ := hit.at (first_at (i := m) (by omega))
    exact s_ret (ev_atT ev_c (ev_var rfl) hs (atI_nat hy)) fun H1 e1 => k _ _ (e0.trans e1) (NumV.ex hN e1)
  refine s_retR (er_tupleOf (R := fun ys H2 => ItemsR (TermI K) ((naf n 0).reverse.map fun x : Int × Nat => (x.1, toT (x.2 : Int))) ys H2) ?_ (fun ys H1 H2 e h => h.tex termI (Ex.t e))) fun v H1 e1 ⟨p, ys, hv, h1, h2⟩ => k v H1 (e0.trans e1) ?_
  · refine (er_lcI (R1 := PairI) (R2 := fun x : Int × Nat => TermI K (x.1, toT (x.2 : Int))) (l := (naf n 0).reverse) ?_ (fun a => (pairI a).mono) (fun a => termI _) (by rw [List.length_reverse]; omega) ?_).imp ?_
    · refine (er_revL (R := fun ys H2 => ItemsR PairI (naf n 0) ys H2) ((er_call1 (R1 := fun v _ => v = .int n) (er_is (ev_var rfl)) monoC fun v H1 e hv => ⟨n, 65536, hv, by decide, hn, rfl⟩).imp ?_) (fun ys H1 H2 e h => h.tex pairI (Ex.t e))).imp fun v H1 e ⟨p, ys, hv, h1, h2⟩ => ⟨p, _, hv, h1, h2.rev⟩
      exact fun v H1 e h => by
        obtain ⟨p, ys, hv, h1, h2⟩ := h
        exact ⟨p, ys, hv, sq_of h1, h2⟩
    · rintro i ⟨s, pl⟩ x H1 hi ⟨q, rfl, hq⟩ e1 Qk kk
      refine g_pair (st_of hq) ⟨rfl, ?_⟩
      have hm : (s, pl) ∈ naf n 0 := List.mem_reverse.mp (List.mem_of_getElem? hi)
      have hp : ((pl : Nat) : Int).natAbs < Cb d := by have := Cb_step hb hm; simpa using this
      refine (er_tup (ea_two (R := fun v _ => v = .int s) (R' := fun v H2 => NumV K H2 v (toT (pl : Int))) (er_is (ev_var rfl)) monoC (er_call1 (R1 := fun v _ => v = .int (pl : Int)) (er_is (ev_var rfl)) monoC fun v H2 e2 hv => ⟨pl, hv, hp, by omega, rfl⟩) (numT.mono))
        (fun vs H2 H3 e ⟨v, w, h1, h2, h3⟩ => ⟨v, w, h1, h2, h3.ex e⟩) (fun vs H2 ⟨v, w, h1, _⟩ => by rw [h1]; show 2 ≤ 100000; omega)) H1 (Ex.refl H1) _ fun v H2 e2 ⟨p, vs, hv, h1, u, w, h2, h3, h4⟩ => kk v H2 e2 ⟨p, w, hv, st_of (by rw [h1, h2, h3]), h4⟩
    · exact fun v H1 e ⟨p, ys, hv, h1, h2, h3⟩ => ⟨p, ys, hv, sq_of h2, by rw [List.length_map]; exact h3.1, fun i y a g1 g2 => by
        rw [List.getElem?_map] at g2
        cases hq : (naf n 0).reverse[i]? with
        | none => rw [hq] at g2; cases g2
        | some z => rw [hq] at g2; cases g2; exact h3.2 i y z g1 hq⟩
  · rw [hv, toT_eq]
    exact NumV.mk (st_of h1) (terms_items h2)
theorem vac_bare_number {K : PySem.W.Frag} {vs : List V} {H : Hp} {Q : VK} {E : XK} (h : sp_bare_number K 0 vs H Q E) : False := by obtain ⟨x, R, _, ⟨n, _, h, _⟩, _⟩ := h; exact Nat.not_lt_zero _ h
end Sk

set_option Elab.async false
set_option linter.all false
set_option maxRecDepth 100000
set_option maxHeartbeats 2000000
namespace Sk
open PySem L2 Evl
/-! ### value_within -/
theorem q_if {σ : L2.St} {H : Hp} {D : Ends} {t : TT} {tu tv tz : TS} {b : Bool} (h : EvT t σ H b) (h1 : b = true → ∀ H1, Ex H H1 → tu { D with nx := tz D } σ H1) (h2 : b = false → ∀ H1, Ex H H1 → tv { D with nx := tz D } σ H1) : tSeq (tIfS t tu tv) tz D σ H := s_if (D := { D with nx := tz D }) h h1 h2
/-- signs are signs, exponents are not below 0 (and lists not too long for the machine) -/
def T.nn : T → Prop
  | .nil => True
  | .cons s e r => ((s = 1 ∨ s = -1) ∧ 0 ≤ e.val ∧ e.toL.length < 100000 ∧ e.can) ∧ e.nn ∧ r.nn
theorem nn_ofL : ∀ {l : List (Int × T)}, (∀ x ∈ l, ((x.1 = 1 ∨ x.1 = -1) ∧ 0 ≤ x.2.val ∧ x.2.toL.length < 100000 ∧ x.2.can) ∧ x.2.nn) → (ofL l).nn
  | [], _ => True.intro
  | (s, e) :: r, h => ⟨(h (s, e) List.mem_cons_self).1, (h (s, e) List.mem_cons_self).2, nn_ofL fun x hx => h x (List.mem_cons_of_mem _ hx)⟩
theorem nn_toL : ∀ {t : T}, t.nn → ∀ x ∈ t.toL, ((x.1 = 1 ∨ x.1 = -1) ∧ 0 ≤ x.2.val ∧ x.2.toL.length < 100000 ∧ x.2.can) ∧ x.2.nn
  | .nil, _, x, hx => by cases hx
  | .cons s e r, h, x, hx => by
    rcases List.mem_cons.mp hx with rfl | hx
    · exact ⟨h.1, h.2.1⟩
    · exact nn_toL h.2.2 x hx
theorem toL_toT (n : Int) : (toT n).toL = (naf n 0).reverse.map fun x : Int × Nat => (x.1, toT (x.2 : Int)) := by rw [toT_eq, toL_ofL]
theorem toT_len {n : Int} {k : Nat} (h : n.natAbs ≤ 2 ^ k) : (toT n).toL.length ≤ k + 1 := by
  rw [toL_toT, List.length_map, List.length_reverse]
  exact naf_len k n 0 h
theorem lt_two_pow_self' (p : Nat) : p ≤ 2 ^ p := Nat.le_of_lt Nat.lt_two_pow_self
theorem toT_nn_aux (E : Nat) (hE : E ≤ 70000) : ∀ (k : Nat) (n : Int), n.natAbs ≤ k → n.natAbs ≤ 2 ^ E → (toT n).nn
  | k, n, hk, hb => by
    rw [toT_eq]
    refine nn_ofL fun x hx => ?_
    obtain ⟨y, hy, rfl⟩ := List.mem_map.mp hx
    have hy := List.mem_reverse.mp hy
    have hle := naf_le hb hy
    have hlt := naf_lt hy
    have h2 : y.2 ≤ 2 ^ E := Nat.le_trans (lt_two_pow_self' y.2) (Nat.pow_le_pow_right (by decide) hle)
    have h3 : (toT (y.2 : Int)).toL.length ≤ E + 1 := toT_len (k := E) (by simpa using h2)
    refine ⟨⟨naf_sign hy, by show 0 ≤ (toT (y.2 : Int)).val; rw [toT_val]; omega, by show (toT (y.2 : Int)).toL.length < 100000; omega, toT_can _⟩, ?_⟩
    cases k with
    | zero => omega
    | succ k => exact toT_nn_aux E hE k _ (by simp; omega) (by simpa using h2)
theorem toT_nn {E : Nat} (hE : E ≤ 70000) {n : Int} (h : n.natAbs ≤ 2 ^ E) : (toT n).nn := toT_nn_aux E hE _ n (Nat.le_refl _) h
theorem intBits_bl (b : Nat) : Builtin.Int.intBits (b : Int) = bl b := by
  unfold Builtin.Int.intBits bl
  by_cases h : b = 0
  · subst h; rfl
  · rw [if_neg (by simpa using h), if_neg h]; rfl
theorem bl_le (b : Nat) : bl b ≤ b := by
  unfold bl
  split
  · omega
  · rename_i h
    have h1 := Nat.log2_self_le h
    have h2 : b.log2 < 2 ^ b.log2 := Nat.lt_two_pow_self
    omega
def optV : Option Int → V
  | none => .non
  | some q => .int q
theorem T.height_mem : ∀ {t : T} {x : Int × T}, x ∈ t.toL → x.2.height < t.height
  | .nil, x, hx => by cases hx
  | .cons s e r, x, hx => by
    rcases List.mem_cons.mp hx with rfl | hx
    · show e.height < max (e.height + 1) r.height; omega
    · have := T.height_mem hx
      show x.2.height < max (e.height + 1) r.height; omega
def pWithin (K : PySem.W.Frag) (d : Nat) : V → V → Hp → VP → Prop := fun x y H R => ∃ (t : T) (b : Nat), NumV K H x t ∧ y = .int (b : Int) ∧ t.nn ∧ t.height < d ∧ b ≤ 100000 ∧ t.toL.length < 100000 ∧ R = fun v _ => v = optV (t.within b)
def sp_value_within (K : PySem.W.Frag) (d : Nat) : Sp := spF2 (pWithin K d)
def t_value_within (K : PySem.W.Frag) (a_FIRST_NUMBERS : Addr) (d : Nat) : TS := (tSeq (tAsg (tC (.int 0)) (gName 2))
    (tSeq (tFor (iTup K (tVar 0)) (gTup K 2 (gCons (gName 3) (gCons (gName 4) gNil))) (tSeq (tIfS (tTest (tOp xGe (tVar 1) (tC (.int 8)))) (tAsg (tCall (sp_value_within K d) [] E0 (tCons (tVar 4) (tCons (tBits (tVar 1)) tNil))) (gName 5)) (tIfS (tTest (tOp (rInN K) (tVar 4) (tC (.ref a_FIRST_NUMBERS)))) (tAsg (tBM K "tuple" (rIndexN K) (tC (.ref a_FIRST_NUMBERS)) (tCons (tVar 4) tNil)) (gName 5)) (tRet (tC .non))))
    (tSeq (tIfS (tOr (tTest (tOp xIsN (tVar 5) (tC .non))) (tTest (tOp xGt (tVar 5) (tVar 1)))) (tRet (tC .non)) tNext)
    (tAug 2 (tOp xShl (tVar 3) (tVar 5)) (ipI fun i j => i + j)))))
    (tRet (tVar 2))))
/-- behind i terms the total is so far what the rest is added to -/
def WWithin (v : V) (b : Nat) (t : T) (H0 : Hp) (i : Nat) (σ : L2.St) (H : Hp) : Prop := ∃ (tot : Int) (z3 z4 z5 : Option V), σ = [some v, some (.int (b : Int)), some (.int tot), z3, z4, z5] ∧ Ex H0 H ∧
  t.within b = ((ofL (t.toL.drop i)).within b).map (tot + ·)
theorem can_within {e : T} {b : Nat} (h : e.can) (h0 : 0 ≤ e.val) (hb : e.val ≤ b) : e.within (bl b) = some e.val := by
  have h1 := within_small e.val.toNat e.val.toNat (Nat.le_refl _) b (by omega)
  have e1 : ((e.val.toNat : Nat) : Int) = e.val := by omega
  rw [e1, ← can_eq h] at h1
  exact h1
theorem firstD_lay : PyData.canLayAll0 (firstT.map T.data) = true := by
  have : ∀ l : List T, PyData.canLayAll0 (l.map T.data) = true := by
    intro l
    induction l with
    | nil => rfl
    | cons t r ih => rw [List.map_cons, PyData.canLayAll0, data_lay, ih]; rfl
  exact this _
theorem firstD_depth : PyData.depthAll (firstT.map T.data) ≤ 100 := by decide +kernel
theorem first_any {e : T} (h : e.can) (h0 : 0 ≤ e.val) : (firstT.map T.data).any (fun z => PyData.eqv z e.data) = decide (e.val < 8) := by
  rw [Bool.eq_iff_iff, List.any_eq_true, decide_eq_true_eq]
  constructor
  · rintro ⟨z, hz, he⟩
    obtain ⟨t, ht, rfl⟩ := List.mem_map.mp hz
    rw [data_eqv, decide_eq_true_eq] at he
    subst he
    rw [first_eq] at ht
    obtain ⟨i, hi, rfl⟩ := List.mem_map.mp ht
    rw [toT_val]
    have := List.mem_range.mp hi
    omega
  · intro hlt
    have hm := first_at (i := e.val.toNat) (by omega)
    have e1 : ((e.val.toNat : Nat) : Int) = e.val := by omega
    rw [e1, ← can_eq h] at hm
    exact ⟨e.data, List.mem_map.mpr ⟨e, List.mem_of_getElem? hm, rfl⟩, by rw [data_eqv]; exact decide_eq_true rfl⟩
section
variable {K : PySem.W.Frag} {σ : L2.St} {H : Hp} {te : TE} {a : Addr}
theorem ev_inFirst {e : T} {w : V} {j : Nat} (hF : FirstAt K a) (hv : σ[j]? = some (some w)) (hw : NumV K H w e) (h : e.can) (h0 : 0 ≤ e.val) : Ev (tOp (rInN K) (tVar j) (tC (.ref a))) σ H (.bl (decide (e.val < 8))) := fun H1 e1 Q q =>
  ⟨w, hv, e.data, firstT.map T.data, hw.ex e1, hF.1 H1, data_lay e, firstD_lay, firstD_depth, by rw [first_any h h0]; exact q H1 (Ex.refl H1)⟩
theorem ev_indexFirst {e : T} {w : V} {j : Nat} (hF : FirstAt K a) (hv : σ[j]? = some (some w)) (hw : NumV K H w e) (h : e.can) (h0 : 0 ≤ e.val) (h8 : e.val < 8) : Ev (tBM K "tuple" (rIndexN K) (tC (.ref a)) (tCons (tVar j) tNil)) σ H (.int e.val) := fun H1 e1 Q q => by
  have hm := first_at (i := e.val.toNat) (by omega)
  have e2 : ((e.val.toNat : Nat) : Int) = e.val := by omega
  rw [e2, ← can_eq h] at hm
  refine ⟨.inr (.inl ⟨rfl, hF.2⟩), w, hv, a, w, e.data, firstT.map T.data, e.val.toNat, e.data, rfl, rfl, hF.1 H1, hw.ex e1, firstD_lay, data_lay e, firstD_depth, by rw [List.getElem?_map, hm]; rfl, by rw [data_eqv]; exact decide_eq_true rfl, ?_, by rw [e2]; exact q H1 (Ex.refl H1)⟩
  intro m z' hmj hz
  rw [List.getElem?_map, first_at (by omega)] at hz
  cases hz
  rw [data_eqv]
  refine decide_eq_false fun q => ?_
  have := congrArg T.val q
  rw [toT_val] at this
  omega
end
theorem pure_value_within {K : PySem.W.Frag} {a_FIRST_NUMBERS : Addr} (hF : FirstAt K a_FIRST_NUMBERS) {d : Nat} {vs : List V} {H : Hp} {Q : VK} {E : XK} (h : sp_value_within K (d + 1) vs H Q E) : t_value_within K a_FIRST_NUMBERS d { nx := fun _ H' => Q .non H', rt := Q } (start ["number", "bits", "total", "sign", "exponent", "place"] vs) H := by
  obtain ⟨x, y, R, rfl, ⟨t, b, hx, rfl, hnn, hh, hb, hl, rfl⟩, k⟩ := h
  obtain ⟨a, xs, rfl, hs, ht⟩ := hx.out
  have hit := items_terms ht
  refine q_asg ev_c fun H1 e1 => ?_
  refine q_forT (xs := xs) (ev_var rfl) (ex_t e1 hs) (WWithin (.ref a) b t H) (fun H2 e2 => ⟨0, none, none, none, rfl, e1.trans e2, ?_⟩) (fun i σ' H' _ ⟨_, _, _, _, _, e, _⟩ => ex_t e hs) ?_ ?_
  · rw [List.drop_zero, ofL_toL]; cases t.within b <;> simp
  · rintro i x σ' H' hi ⟨tot, z3, z4, z5, rfl, e2, hw⟩
    obtain ⟨⟨s, e⟩, hget, p, w, rfl, hp, hwv⟩ := (hit.ex (fun a => (termI a).mono) e2).of_at hi
    have hmem : (s, e) ∈ t.toL := List.mem_of_getElem? hget
    obtain ⟨⟨hsg, hev, hel, hec⟩, hen⟩ := nn_toL hnn _ hmem
    have hdrop : t.toL.drop i = (s, e) :: t.toL.drop (i + 1) := by
      have hlt : i < t.toL.length := (List.getElem?_eq_some_iff.mp hget).1
      rw [List.drop_eq_getElem_cons hlt]
      congr 1
      exact (List.getElem?_eq_some_iff.mp hget).2
    rw [hdrop, ofL, T.within] at hw
    -- an exponent above b ends it, another one goes on
    have hA : (b : Int) < e.val → t.within b = none := fun hlt => by
      rw [hw]
      cases hq : e.within (bl b) with
      | none => rfl
      | some q =>
        have hqv := within_val _ _ _ hq
        simp only
        rw [if_pos (by rw [hqv]; exact hlt)]; rfl
    have hB : e.val ≤ (b : Int) → t.within b = ((ofL (t.toL.drop (i + 1))).within b).map ((tot + s * 2 ^ e.val.toNat) + ·) := fun hle => by
      rw [hw, can_within hec hev hle]
      simp only
      rw [if_neg (by omega)]
      cases (ofL (t.toL.drop (i + 1))).within b with
      | none => rfl
      | some z => show some (tot + (s * 2 ^ e.val.toNat + z)) = some (tot + s * 2 ^ e.val.toNat + z); rw [Int.add_assoc]
    have fin : ∀ {z5 : Option V} {D : Ends} {H4 : Hp}, Ex H' H4 → D.rt = Q → (∀ σ2 H5, Ex H4 H5 → WWithin (.ref a) b t H (i + 1) σ2 H5 → D.nx σ2 H5) → tSeq (tIfS (tOr (tTest (tOp xIsN (tVar 5) (tC .non))) (tTest (tOp xGt (tVar 5) (tVar 1)))) (tRet (tC .non)) tNext)
        (tAug 2 (tOp xShl (tVar 3) (tVar 5)) (ipI fun i j => i + j)) D [some (.ref a), some (.int (b : Int)), some (.int tot), some (.int s), some w, some (.int e.val)] H4 := by
      intro z5 D H4 e4 hrt hnx
      refine q_when (b := decide ((b : Int) < e.val)) ?_ (fun hc H5 e5 => ?_) (fun hc H5 e5 => ?_)
      · exact et_is (et_or (a := false) (b := decide ((b : Int) < e.val)) (et_test (ev_is (ev_isN (ev_var rfl)) rfl)) (fun _ => et_test (ev_gt (ev_var rfl) (ev_var rfl)))) (Bool.false_or _)
      · exact s_ret ev_c fun H6 e6 => by rw [hrt]; exact k _ _ (e2.trans (e4.trans (e5.trans e6))) (by rw [hA (of_decide_eq_true hc)]; rfl)
      · have hc' : ¬ (b : Int) < e.val := of_decide_eq_false hc
        have hcp : CPow s e.val := ⟨hev, by omega, by rcases hsg with rfl | rfl <;> decide⟩
        refine s_aug (a := tot) (b := s * 2 ^ e.val.toNat) rfl (ev_shl (ev_var rfl) (ev_var rfl) hcp) fun H6 e6 => hnx _ _ (e5.trans e6) ⟨tot + s * 2 ^ e.val.toNat, _, _, _, rfl, e2.trans (e4.trans (e5.trans e6)), hB (by omega)⟩
    refine g_pair hp ?_
    refine q_if (b := decide ((8 : Int) ≤ (b : Int))) (et_test (ev_ge (ev_var rfl) ev_c)) (fun h8 H2 e2' => ?_) (fun h8 H2 e2' => ?_)
    · refine s_asgR (R := fun v _ => v = optV (e.within (bl b))) (er_call2 (R1 := fun v H => NumV K H v e) (R2 := fun v _ => v = .int (bl b : Nat)) (er_var rfl fun H1 e1 => hwv.ex (e2'.trans e1)) numT.mono ?_ monoC ?_) fun v H3 e3 hv => ?_
      · exact er_is (by rw [← intBits_bl]; exact ev_bits (ev_var rfl))
      · rintro v w' H1 e1 h1 rfl
        exact ⟨e, bl b, h1, rfl, hen, by have h := T.height_mem hmem; have h' : e.height < t.height := h; omega, Nat.le_trans (bl_le b) hb, hel, rfl⟩
      subst hv
      cases hq : e.within (bl b) with
      | none =>
        have hgt : (b : Int) < e.val := by
          apply Int.not_le.mp
          intro hle
          rw [can_within hec hev hle] at hq
          cases hq
        dsimp only
        refine q_when (b := true) ?_ (fun _ H4 e4 => ?_) (fun h => by cases h)
        · exact et_or (a := true) (b := false) (et_test (ev_is (ev_isN (ev_var rfl)) rfl)) (fun h => by cases h)
        · exact s_ret ev_c fun H5 e5 => k _ _ (e2.trans (e2'.trans (e3.trans (e4.trans e5)))) (by rw [hA hgt]; rfl)
      | some q =>
        have hqv := within_val _ _ _ hq
        subst hqv
        exact fin (z5 := z5) (e2'.trans e3) rfl fun σ2 H5 e5 h => h
    · refine s_if (b := decide (e.val < 8)) (et_test (ev_inFirst hF rfl (hwv.ex e2') hec hev)) (fun hc H3 e3 => ?_) (fun hc H3 e3 => ?_)
      · refine s_asgR (R := fun v _ => v = .int e.val) (er_is (ev_indexFirst hF rfl (hwv.ex (e2'.trans e3)) hec hev (of_decide_eq_true hc))) fun v H4 e4 hv => ?_
        subst hv
        exact fin (z5 := z5) (e2'.trans (e3.trans e4)) rfl fun σ2 H5 e5 h => h
      · have h1 := of_decide_eq_false hc
        have h2 := of_decide_eq_false h8
        exact s_ret ev_c fun H5 e5 => k _ _ (e2.trans (e2'.trans (e3.trans e5))) (by rw [hA (by omega)]; rfl)
  · rintro σ' H' ⟨tot, z3, z4, z5, rfl, e2, hw⟩
    have : t.toL.drop xs.length = [] := List.drop_eq_nil_of_le (by rw [hit.1]; exact Nat.le_refl _)
    rw [this] at hw
    refine s_ret (ev_var rfl) fun H5 e5 => k _ _ (e2.trans e5) ?_
    rw [hw]
    show V.int tot = optV (some (tot + 0))
    rw [Int.add_zero] <;> rfl
theorem vac_value_within {K : PySem.W.Frag} {vs : List V} {H : Hp} {Q : VK} {E : XK} (h : sp_value_within K 0 vs H Q E) : False := by obtain ⟨x, y, R, _, ⟨t, b, _, _, _, h, _⟩, _⟩ := h; exact Nat.not_lt_zero _ h
end Sk

set_option Elab.async false
set_option linter.all false
set_option maxRecDepth 100000
set_option maxHeartbeats 2000000
namespace Sk
open PySem L2 Evl
/-! ### trees in their form: parts, sizes, order -/
theorem mem_size : ∀ {t : T} {x : Int × T}, x ∈ t.toL → x.2.size < t.size ∧ x.2.height < t.height
  | .nil, x, h => by cases h
  | .cons s e r, x, h => by
    have e1 : (T.cons s e r).height = max (e.height + 1) r.height := rfl
    have e2 : (T.cons s e r).size = e.size + r.size := rfl
    have pos : ∀ t : T, 1 ≤ t.size := fun t => by
      induction t with
      | nil => exact Nat.le_refl _
      | cons s e r h1 h2 => show 1 ≤ e.size + r.size; omega
    have p1 := pos r
    have p2 := pos e
    rcases List.mem_cons.mp h with rfl | h
    · show e.size < _ ∧ e.height < _; omega
    · have := mem_size h; omega
theorem len_size (t : T) : t.toL.length < t.size := by
  induction t with
  | nil => exact Nat.lt_succ_self _
  | cons s e r h1 h2 =>
    show r.toL.length + 1 < e.size + r.size
    omega
theorem can_mem : ∀ {t : T}, t.can → ∀ x ∈ t.toL, x.2.can
  | .nil, _, x, hx => by cases hx
  | .cons s e r, h, x, hx => by
    rcases List.mem_cons.mp hx with rfl | hx
    · exact h.2.1
    · exact can_mem h.2.2 x hx
theorem can_sign : ∀ {t : T}, t.can → ∀ x ∈ t.toL, (x.1 = 1 ∨ x.1 = -1) ∧ 0 ≤ x.2.val
  | .nil, _, x, hx => by cases hx
  | .cons s e r, h, x, hx => by
    rcases List.mem_cons.mp hx with rfl | hx
    · exact ⟨h.1.1, h.1.2.1⟩
    · exact can_sign h.2.2 x hx
theorem can_lead : ∀ {t : T}, t.can → ∀ x ∈ t.toL, x.2.val ≤ t.lead
  | .nil, _, x, hx => by cases hx
  | .cons s e r, h, x, hx => by
    rcases List.mem_cons.mp hx with rfl | hx
    · exact Int.le_refl _
    · have := can_lead h.2.2 x hx
      have h2 := h.1.2.2
      show x.2.val ≤ e.val
      omega
theorem can_gap : ∀ {t : T}, t.can → t.toL.Pairwise (fun x y => y.2.val + 2 ≤ x.2.val)
  | .nil, _ => List.Pairwise.nil
  | .cons s e r, h => List.pairwise_cons.mpr ⟨fun x hx => by
      have := can_lead h.2.2 x hx
      have h2 := h.1.2.2
      show x.2.val + 2 ≤ e.val
      omega, can_gap h.2.2⟩
theorem nn_of_can : ∀ {t : T}, t.can → t.size < 100000 → t.nn
  | .nil, _, _ => True.intro
  | .cons s e r, h, hz => by
    have e2 : (T.cons s e r).size = e.size + r.size := rfl
    have h1 := len_size e
    have h2 := len_size r
    exact ⟨⟨h.1.1, h.1.2.1, by omega, h.2.1⟩, nn_of_can h.2.1 (by omega), nn_of_can h.2.2 (by omega)⟩
theorem val_app : ∀ l l' : List (Int × T), (ofL (l ++ l')).val = (ofL l).val + (ofL l').val
  | [], l' => by show _ = 0 + _; rw [Int.zero_add]; rfl
  | (s, e) :: l, l' => by
    show s * 2 ^ e.val.toNat + (ofL (l ++ l')).val = s * 2 ^ e.val.toNat + (ofL l).val + (ofL l').val
    rw [val_app l l']
    omega
theorem take_step {t : T} {keep : Nat} {s : Int} {e : T} (h : t.toL[keep]? = some (s, e)) : (ofL (t.toL.take (keep + 1))).val = (ofL (t.toL.take keep)).val + s * 2 ^ e.val.toNat := by
  obtain ⟨h1, h2⟩ := List.getElem?_eq_some_iff.mp h
  rw [List.take_succ_eq_append_getElem h1, val_app, h2]
  show _ + (s * 2 ^ e.val.toNat + 0) = _
  rw [Int.add_zero]

theorem can_drop {t : T} (h : t.can) (j : Nat) : (ofL (t.toL.drop j)).can :=
  can_ofL (fun x hx => ⟨(can_sign h x (List.mem_of_mem_drop hx)).1, (can_sign h x (List.mem_of_mem_drop hx)).2, can_mem h x (List.mem_of_mem_drop hx)⟩) ((can_gap h).sublist (List.drop_sublist _ _))
theorem can_take {t : T} (h : t.can) (j : Nat) : (ofL (t.toL.take j)).can :=
  can_ofL (fun x hx => ⟨(can_sign h x (List.mem_of_mem_take hx)).1, (can_sign h x (List.mem_of_mem_take hx)).2, can_mem h x (List.mem_of_mem_take hx)⟩) ((can_gap h).sublist (List.take_sublist _ _))
theorem val_cut (t : T) (j : Nat) : t.val = (ofL (t.toL.take j)).val + (ofL (t.toL.drop j)).val := by
  rw [← val_app, List.take_append_drop, ofL_toL]
theorem toL_inj {t u : T} (h : t.toL = u.toL) : t = u := by rw [← ofL_toL t, h, ofL_toL]
/-- -1, 0, 1: less, the same, greater -/
def cmpI (a b : Int) : Int := if a < b then -1 else if a = b then 0 else 1
theorem cmp_add (a x y : Int) : cmpI (a + x) (a + y) = cmpI x y := by
  unfold cmpI
  by_cases h : x < y
  · rw [if_pos h, if_pos (by omega)]
  · rw [if_neg h, if_neg (by omega)]
    by_cases h2 : x = y
    · rw [if_pos h2, if_pos (by omega)]
    · rw [if_neg h2, if_neg (by omega)]
theorem cmp_lt {x y : Int} (h : x < y) : cmpI x y = -1 := by unfold cmpI; rw [if_pos h]
theorem cmp_gt {x y : Int} (h : y < x) : cmpI x y = 1 := by unfold cmpI; rw [if_neg (by omega), if_neg (by omega)]
theorem cmp_self (x : Int) : cmpI x x = 0 := by unfold cmpI; rw [if_neg (Int.lt_irrefl _), if_pos rfl]
/-- the first terms that differ decide -/
theorem ord_diff {t u : T} {j : Nat} {s s' : Int} {e e' : T} (ht : t.can) (hu : u.can) (h : t.toL.take j = u.toL.take j) (h1 : t.toL[j]? = some (s, e)) (h2 : u.toL[j]? = some (s', e')) (hne : (s, e) ≠ (s', e')) :
    (s ≠ s' → cmpI t.val u.val = s) ∧ (s = s' → e ≠ e' ∧ cmpI t.val u.val = s * cmpI e.val e'.val) := by
  have d1 : t.toL.drop j = (s, e) :: t.toL.drop (j + 1) := by
    obtain ⟨g1, g2⟩ := List.getElem?_eq_some_iff.mp h1
    rw [List.drop_eq_getElem_cons g1, g2]
  have d2 : u.toL.drop j = (s', e') :: u.toL.drop (j + 1) := by
    obtain ⟨g1, g2⟩ := List.getElem?_eq_some_iff.mp h2
    rw [List.drop_eq_getElem_cons g1, g2]
  have c1 := can_drop ht j
  have c2 := can_drop hu j
  rw [d1] at c1
  rw [d2] at c2
  rw [val_cut t j, val_cut u j, h, cmp_add, d1, d2]
  generalize t.toL.drop (j + 1) = r at *
  generalize u.toL.drop (j + 1) = r' at *
  have p1 := can_pos c1
  have p2 := can_pos c2
  have k1 : s = 1 ∨ s = -1 := c1.1.1
  have k2 : s' = 1 ∨ s' = -1 := c2.1.1
  refine ⟨fun hs => ?_, fun hs => ?_⟩
  · show cmpI (T.cons s e (ofL r)).val (T.cons s' e' (ofL r')).val = s
    generalize (T.cons s e (ofL r)).val = x at *
    generalize (T.cons s' e' (ofL r')).val = y at *
    rcases k1 with rfl | rfl <;> rcases k2 with rfl | rfl
    · exact absurd rfl hs
    · exact cmp_gt (by omega)
    · exact cmp_lt (by omega)
    · exact absurd rfl hs
  · subst hs
    have hee : e ≠ e' := fun q => hne (by rw [q])
    refine ⟨hee, ?_⟩
    have hev : e.val ≠ e'.val := fun q => hee (can_uniq c1.2.1 c2.2.1 q)
    show cmpI (T.cons s e (ofL r)).val (T.cons s e' (ofL r')).val = _
    rcases Int.lt_or_gt_of_ne hev with q | q
    · have := (lead_lt c1 c2 q).1
      rw [cmp_lt q]
      generalize (T.cons s e (ofL r)).val = x at *
      generalize (T.cons s e' (ofL r')).val = y at *
      rcases k1 with rfl | rfl
      · rw [cmp_lt (by omega)]; rfl
      · rw [cmp_gt (by omega)]; rfl
    · have := (lead_lt c2 c1 q).1
      rw [cmp_gt q]
      generalize (T.cons s e (ofL r)).val = x at *
      generalize (T.cons s e' (ofL r')).val = y at *
      rcases k1 with rfl | rfl
      · rw [cmp_gt (by omega)]; rfl
      · rw [cmp_lt (by omega)]; rfl
/-- none differs as far as both go: the one that goes on decides -/
theorem ord_end {t u : T} {j : Nat} (ht : t.can) (hu : u.can) (h : t.toL.take j = u.toL.take j) (hne : t ≠ u) (hj : j = min t.toL.length u.toL.length) :
    (∃ s e r, t.toL.drop u.toL.length = (s, e) :: r ∧ u.toL.drop t.toL.length = [] ∧ cmpI t.val u.val = s) ∨ (∃ s e r, u.toL.drop t.toL.length = (s, e) :: r ∧ t.toL.drop u.toL.length = [] ∧ cmpI t.val u.val = -s) := by
  rcases Nat.lt_trichotomy t.toL.length u.toL.length with q | q | q
  · have ej : j = t.toL.length := by omega
    refine .inr ?_
    have hd : t.toL.drop j = [] := List.drop_eq_nil_of_le (by omega)
    have c2 := can_drop hu t.toL.length
    rw [val_cut t j, val_cut u j, h, cmp_add, hd, ← ej] at *
    cases hq : u.toL.drop j with
    | nil => have := congrArg List.length hq; rw [List.length_drop] at this; simp at this; omega
    | cons x r =>
      obtain ⟨s, e⟩ := x
      rw [hq] at c2
      refine ⟨s, e, r, rfl, List.drop_eq_nil_of_le (by omega), ?_⟩
      have p := can_pos c2
      show cmpI 0 (T.cons s e (ofL r)).val = -s
      generalize (T.cons s e (ofL r)).val = x at *
      rcases (show s = 1 ∨ s = -1 from c2.1.1) with rfl | rfl
      · exact cmp_lt (by omega)
      · exact cmp_gt (by omega)
  · exfalso
    apply hne
    apply toL_inj
    have e1 : t.toL.take j = t.toL := List.take_of_length_le (by omega)
    have e2 : u.toL.take j = u.toL := List.take_of_length_le (by omega)
    rw [← e1, h, e2]
  · have ej : j = u.toL.length := by omega
    refine .inl ?_
    have hd : u.toL.drop j = [] := List.drop_eq_nil_of_le (by omega)
    have c1 := can_drop ht u.toL.length
    rw [val_cut t j, val_cut u j, h, cmp_add, hd, ← ej] at *
    cases hq : t.toL.drop j with
    | nil => have := congrArg List.length hq; rw [List.length_drop] at this; simp at this; omega
    | cons x r =>
      obtain ⟨s, e⟩ := x
      rw [hq] at c1
      refine ⟨s, e, r, rfl, List.drop_eq_nil_of_le (by omega), ?_⟩
      have p := can_pos c1
      show cmpI (T.cons s e (ofL r)).val 0 = s
      generalize (T.cons s e (ofL r)).val = x at *
      rcases (show s = 1 ∨ s = -1 from c1.1.1) with rfl | rfl
      · exact cmp_gt (by omega)
      · exact cmp_lt (by omega)
end Sk

set_option Elab.async false
set_option linter.all false
set_option maxRecDepth 100000
set_option maxHeartbeats 2000000
namespace Sk
open PySem L2 Evl
/-! ### levels -/
def nextRow (row : List T) : List T := (row.map fun t => t.toL.map (·.2)).flatten
def levF : Nat → List T → List (List T)
  | 0, _ => []
  | k + 1, row => if row = [] then [] else row :: levF k (nextRow row)
def hrow (row : List T) : Nat := row.foldr (fun t m => max (t.height + 1) m) 0
def srow (row : List T) : Nat := (row.map T.size).sum
theorem height_le_of : ∀ {t : T} {k : Nat}, (∀ x ∈ t.toL, x.2.height + 1 ≤ k) → t.height ≤ k
  | .nil, _, _ => Nat.zero_le _
  | .cons s e r, k, h => by
    have h1 := h (s, e) List.mem_cons_self
    have h2 := height_le_of (t := r) fun x hx => h x (List.mem_cons_of_mem _ hx)
    show max (e.height + 1) r.height ≤ k
    have h1' : e.height + 1 ≤ k := h1
    omega
theorem hrow_le : ∀ {row : List T} {k : Nat}, hrow row ≤ k ↔ ∀ t ∈ row, t.height + 1 ≤ k
  | [], k => by simp [hrow]
  | t :: r, k => by
    have ih := hrow_le (row := r) (k := k)
    show max (t.height + 1) (hrow r) ≤ k ↔ _
    constructor
    · intro h x hx
      rcases List.mem_cons.mp hx with rfl | hx
      · omega
      · exact ih.mp (by omega) x hx
    · intro h
      have h1 := h t List.mem_cons_self
      have h2 := ih.mpr fun x hx => h x (List.mem_cons_of_mem _ hx)
      omega
theorem mem_next {row : List T} {e : T} : e ∈ nextRow row ↔ ∃ t ∈ row, ∃ x ∈ t.toL, x.2 = e := by
  unfold nextRow
  rw [List.mem_flatten]
  constructor
  · rintro ⟨l, hl, he⟩
    obtain ⟨t, ht, rfl⟩ := List.mem_map.mp hl
    obtain ⟨x, hx, rfl⟩ := List.mem_map.mp he
    exact ⟨t, ht, x, hx, rfl⟩
  · rintro ⟨t, ht, x, hx, rfl⟩
    exact ⟨_, List.mem_map.mpr ⟨t, ht, rfl⟩, List.mem_map.mpr ⟨x, hx, rfl⟩⟩
theorem hrow_next {row : List T} {k : Nat} : hrow row ≤ k + 1 ↔ hrow (nextRow row) ≤ k := by
  rw [hrow_le, hrow_le]
  constructor
  · intro h e he
    obtain ⟨t, ht, x, hx, rfl⟩ := mem_next.mp he
    have := h t ht
    have := T.height_mem hx
    omega
  · intro h t ht
    have : t.height ≤ k := height_le_of fun x hx => h x.2 (mem_next.mpr ⟨t, ht, x, hx, rfl⟩)
    omega
theorem levF_len : ∀ {k : Nat} {row : List T}, hrow row ≤ k → (levF k row).length = hrow row
  | 0, row, h => by show 0 = _; omega
  | k + 1, row, h => by
    by_cases hr : row = []
    · subst hr; rfl
    · unfold levF
      rw [if_neg hr, List.length_cons, levF_len (hrow_next.mp h)]
      have h1 : 1 ≤ hrow row := by
        cases row with
        | nil => exact absurd rfl hr
        | cons t r => show 1 ≤ max (t.height + 1) _; omega
      have h2 := hrow_next (row := row) (k := hrow (nextRow row)) |>.mpr (Nat.le_refl _)
      have h3 := hrow_next (row := row) (k := hrow row - 1) |>.mp (by omega)
      omega
theorem size_toL : ∀ t : T, t.size = 1 + (t.toL.map fun x => x.2.size).sum
  | .nil => rfl
  | .cons s e r => by
    show e.size + r.size = 1 + ((s, e).2.size :: r.toL.map fun x => x.2.size).sum
    rw [List.sum_cons, size_toL r]
    show e.size + _ = 1 + (e.size + _)
    omega
theorem srow_next : ∀ row : List T, srow row = row.length + srow (nextRow row)
  | [] => rfl
  | t :: r => by
    have ih := srow_next r
    show (t.size :: r.map T.size).sum = (r.length + 1) + srow (nextRow (t :: r))
    have e : srow (nextRow (t :: r)) = (t.toL.map fun x => x.2.size).sum + srow (nextRow r) := by
      show (List.map T.size (t.toL.map (·.2) ++ nextRow r)).sum = _
      rw [List.map_append, List.sum_append, List.map_map] <;> rfl
    rw [List.sum_cons, e, size_toL t]
    have : (r.map T.size).sum = srow r := rfl
    omega
theorem levF_sum : ∀ {k : Nat} {row : List T}, hrow row ≤ k → ((levF k row).map List.length).sum = srow row
  | 0, row, h => by
    have : row = [] := by
      cases row with
      | nil => rfl
      | cons t r => have : max (t.height + 1) (hrow r) ≤ 0 := h; omega
    subst this; rfl
  | k + 1, row, h => by
    by_cases hr : row = []
    · subst hr; rfl
    · unfold levF
      rw [if_neg hr, List.map_cons, List.sum_cons, levF_sum (hrow_next.mp h), ← srow_next]
theorem hrow_one (t : T) : hrow [t] = t.height + 1 := by show max (t.height + 1) 0 = _; omega
theorem srow_one (t : T) : srow [t] = t.size := by show (t.size + 0 : Nat) = t.size; omega
theorem sz_ltB {n : Nat} (h : n < 4000000) : n < sizeLine := Nat.lt_trans h (by decide)
/-- a number that stands for t -/
def NumI (K : PySem.W.Frag) (t : T) : VP := fun v H => NumV K H v t
theorem numI {K : PySem.W.Frag} (t : T) : MonoT (NumI K t) := numT
section
variable {K : PySem.W.Frag} {H : Hp} {x0 x1 x2 x3 x4 x5 : Option V}
theorem take_snoc {α : Type} {l : List α} {i : Nat} {a : α} (h : l[i]? = some a) : l.take (i + 1) = l.take i ++ [a] := by
  have hlt : i < l.length := (List.getElem?_eq_some_iff.mp h).1
  rw [List.take_succ, h] <;> rfl
/-- [exponent for item in row for _, exponent in item] -/
theorem er_next {row : List T} {a : Addr} {xs : List V} (hv : x2 = some (.ref a)) (hs : SqL K H a xs) (hit : ItemsR (NumI K) row xs H) (hz : (nextRow row).length < 4000000) :
    ER (tLc2 (iList K (tVar 2)) (gName 3) tYes (iTup K (tVar 3)) (gTup K 2 (gCons (gName 4) (gCons (gName 5) gNil))) tYes (tVar 5) [3, 4, 5] [4, 5]) [x0, x1, x2, x3, x4, x5] H
      (fun v H2 => ∃ p ys, v = .ref p ∧ H p = none ∧ H2 p = some (.lst ys) ∧ ItemsR (NumI K) (nextRow row) ys H2) := by
  intro H1 e1 Q q
  subst hv
  refine ⟨_, rfl, a, rfl, ⟨xs, ex_l e1 hs⟩, fun D hD => ?_⟩
  -- behind i numbers: the exponents of the first i
  let Pv : List T → Hp → Prop := fun done H' => H1 D = none ∧ Ex H1 H' ∧ ∃ ys, H' D = some (.lst ys) ∧ ItemsR (NumI K) done ys H'
  refine ⟨fun i m H' => m = xs.length - i ∧ i ≤ xs.length ∧ Pv (nextRow (row.take i)) H', ⟨xs.length, rfl, Nat.zero_le _, hD, Ex.new hD, [], upd_same, .nil⟩, ?_⟩
  rintro i m H' ⟨rfl, hi, p⟩
  obtain ⟨_, e2, ys, hy, hys⟩ := _root_.id p
  have hsq : SqL K H' a xs := ex_l (e1.trans e2) hs
  by_cases hlt : i < xs.length
  · refine .inr ⟨⟨xs, xs[i], hsq, by simp [hlt]⟩, Pv (nextRow (row.take (i + 1))), fun H'' p' => ⟨xs.length - (i + 1), by omega, rfl, hlt, p'⟩, fun x H'' y => ?_⟩
    obtain ⟨rfl, y⟩ := y
    have hx := y xs hsq
    obtain ⟨t, ht, hn⟩ := hit.of_at hx
    obtain ⟨b, zs, rfl, hb, htm⟩ := NumV.out hn
    have hzs := items_terms htm
    have hnx : nextRow (row.take (i + 1)) = nextRow (row.take i) ++ t.toL.map (·.2) := by
      rw [take_snoc ht]
      unfold nextRow
      rw [List.map_append, List.flatten_append] <;> simp
    refine ⟨rfl, ?_⟩
    refine ⟨_, rfl, b, rfl, ⟨zs, ex_t (e1.trans e2) hb⟩, ?_⟩
    refine ⟨fun j k H3 => k = zs.length - j ∧ j ≤ zs.length ∧ Pv (nextRow (row.take i) ++ (t.toL.take j).map (·.2)) H3, ⟨zs.length, rfl, Nat.zero_le _, by simpa using p⟩, ?_⟩
    rintro j k H3 ⟨rfl, hj, p3⟩
    obtain ⟨_, e3, us, hu, hus⟩ := _root_.id p3
    have hb3 : SqT K H3 b zs := ex_t (e1.trans e3) hb
    by_cases hjt : j < zs.length
    · refine .inr ⟨⟨zs, zs[j], hb3, by simp [hjt]⟩, Pv (nextRow (row.take i) ++ (t.toL.take (j + 1)).map (·.2)), fun H4 p' => ⟨zs.length - (j + 1), by omega, rfl, hjt, p'⟩, fun z H4 yz => ?_⟩
      obtain ⟨rfl, yz⟩ := yz
      obtain ⟨⟨s, e⟩, hse, q0, w, rfl, hq0, hw⟩ := hzs.of_at (yz zs hb3)
      refine g_pair (ex_t (e1.trans e3) hq0) ⟨rfl, ?_⟩
      unfold tYes
      refine iteT ?_
      refine ⟨w, rfl, us, hu, ?_, hD, Ex.mut e3 hD, us ++ [w], upd_same, ?_⟩
      · have hle : (nextRow (row.take i) ++ (t.toL.take j).map (·.2)).length ≤ (nextRow row).length := by
          have h1 : nextRow row = nextRow (row.take (i + 1)) ++ nextRow (row.drop (i + 1)) := by
            unfold nextRow
            rw [← List.flatten_append, ← List.map_append, List.take_append_drop]
          rw [h1, hnx, List.length_append, List.length_append, List.length_append, List.length_map, List.length_map, List.length_take]
          omega
        exact sz_ltB (by rw [hus.1]; omega)
      · rw [take_snoc hse, List.map_append, ← List.append_assoc]
        have t4 : TEx H4 (upd H4 D (.lst (us ++ [w]))) := TEx.put hu
        exact (hus.tex numI t4).snoc (((NumV.ex hw (e1.trans e3)).tex t4 : NumV K _ w e))
    · have hj' : j = zs.length := by omega
      subst hj'
      refine .inl ⟨⟨zs, hb3, Nat.le_refl _⟩, ?_⟩
      show Pv _ H3
      rw [hnx]
      have : t.toL.take zs.length = t.toL := by rw [hzs.1]; exact List.take_length
      rw [this] at p3
      exact p3
  · have hi' : i = xs.length := by omega
    subst hi'
    have : row.take xs.length = row := by rw [hit.1]; exact List.take_length
    rw [this] at hys
    exact .inl ⟨⟨xs, hsq, Nat.le_refl _⟩, q _ H' e2 ⟨D, ys, rfl, fresh_back e1 hD, hy, hys⟩⟩
end
/-- a row: a list of numbers that stand for row, at another address than l -/
def RowI (K : PySem.W.Frag) (row : List T) : VP := fun v H => ∃ q zs, v = .ref q ∧ H q = some (.lst zs) ∧ ItemsR (NumI K) row zs H
/-- small enough for the machine's lists -/
def T.szk (t : T) : Prop := t.size < 4000000 ∧ t.height < 99999
def pLevels (K : PySem.W.Frag) : V → Hp → VP → Prop := fun x H R => ∃ t : T, NumV K H x t ∧ t.szk ∧ R = ListR (RowI K) (levF (t.height + 1) [t])
def sp_levels (K : PySem.W.Frag) : Sp := spF1 (pLevels K)
def t_levels (K : PySem.W.Frag) : TS := (tSeq (tAsg (tLst tNil) (gName 1))
    (tSeq (tAsg (tLst (tCons (tVar 0) tNil)) (gName 2))
    (tSeq (tWhile (tTruK K (tVar 2)) (tSeq (tDrop (tBM K "list" rAppend (tVar 1) (tCons (tVar 2) tNil)))
    (tAsg (tLc2 (iList K (tVar 2)) (gName 3) tYes (iTup K (tVar 3)) (gTup K 2 (gCons (gName 4) (gCons (gName 5) gNil))) tYes (tVar 5) [3, 4, 5] [4, 5]) (gName 2))))
    (tRet (tVar 1)))))
/-- the rows so far at l, the next row -/
def WLevels (K : PySem.W.Frag) (v : V) (t : T) (l : Addr) (H0 : Hp) (m : Nat) (σ : L2.St) (H : Hp) : Prop := ∃ (q : Addr) (z3 z4 z5 : Option V) (row : List T) (zs ys : List V) (acc : List (List T)),
  σ = [some v, some (.ref l), some (.ref q), z3, z4, z5] ∧ H0 l = none ∧ Ex H0 H ∧ q ≠ l ∧ H q = some (.lst zs) ∧ ItemsR (NumI K) row zs H ∧ H l = some (.lst ys) ∧ ItemsR (fun r v H => RowI K r v H ∧ v ≠ .ref l) acc ys H ∧
  acc ++ levF m row = levF (t.height + 1) [t] ∧ hrow row ≤ m ∧ srow row < 4000000 ∧ acc.length + m ≤ t.height + 1
theorem height_le_size : ∀ t : T, t.height + 1 ≤ t.size
  | .nil => Nat.le_refl _
  | .cons s e r => by
    have h1 := height_le_size e
    have h2 := height_le_size r
    show max (e.height + 1) r.height + 1 ≤ e.size + r.size
    omega
theorem szk_of {t : T} (h : t.size < 100000) : t.szk := ⟨by omega, by have := height_le_size t; omega⟩
theorem size_pos (t : T) : 1 ≤ t.size := Nat.le_trans (Nat.le_add_left 1 _) (height_le_size t)
theorem len_le_srow : ∀ row : List T, row.length ≤ srow row
  | [] => Nat.le_refl _
  | t :: r => by
    have := len_le_srow r
    have := size_pos t
    show r.length + 1 ≤ (t.size + (r.map T.size).sum : Nat)
    have : (r.map T.size).sum = srow r := rfl
    omega
theorem pure_levels {K : PySem.W.Frag} {vs : List V} {H : Hp} {Q : VK} {E : XK} (h : sp_levels K vs H Q E) : t_levels K { nx := fun _ H' => Q .non H', rt := Q } (start ["number", "rows", "row", "item", "_", "exponent"] vs) H := by
  obtain ⟨x, R, rfl, ⟨t, hx, hsz, rfl⟩, k⟩ := h
  have hhs := hsz.2
  refine q_asgL (el_lst ea_nil (by decide)) fun l H1 hl e1 h1 => ?_
  refine q_asgL (el_lst (ea_cons (ev_var rfl) ea_nil) (by show 1 ≤ 100000; omega)) fun q H2 hq e2 h2 => ?_
  have hql : q ≠ l := fun e => by rw [e, h1] at hq; cases hq
  refine q_while' (WLevels K x t l H) (t.height + 1) ⟨q, none, none, none, [t], [x], [], [], rfl, hl, e1.trans e2, hql, h2, ?_, e2 l _ h1, .nil, rfl, by rw [hrow_one]; exact Nat.le_refl _, by rw [srow_one]; exact hsz.1, by simp⟩ ?_
  · exact ItemsR.snoc (l := []) (ys := []) .nil (NumV.ex hx (e1.trans e2))
  rintro m σ' H' ⟨q, z3, z4, z5, row, zs, ys, acc, rfl, hl0, e3, hql, h3, h4, h5, h6, h7, h8, h9, h10⟩
  refine ⟨!zs.isEmpty, et_truL (ev_var rfl) (sq_of h3), fun hb H4 e4 => ?_, fun hb H4 e4 => ?_⟩
  · have hrow : row ≠ [] := fun e => by
      subst e
      have : zs = [] := List.length_eq_zero_iff.mp h4.1
      subst this; cases hb
    have hm : ∃ m', m = m' + 1 := by
      cases m with
      | zero =>
        cases row with
        | nil => exact absurd rfl hrow
        | cons t r => have : max (t.height + 1) (Sk.hrow r) ≤ 0 := h8; omega
      | succ m' => exact ⟨m', rfl⟩
    obtain ⟨m', rfl⟩ := hm
    have hys : ys.length < 100000 := by rw [h6.1]; omega
    refine q_app (e4 l _ h5) (ev_var rfl) (ev_var rfl) hys fun H5 e5 => ?_
    have e45 : Ex H' H5 := e4.trans e5
    have hq6 : (upd H5 l (.lst (ys ++ [V.ref q]))) q = some (.lst zs) := by rw [upd_ne hql]; exact e45 q _ h3
    have t6 : TEx H' (upd H5 l (.lst (ys ++ [V.ref q]))) := (Ex.t e45).trans (TEx.put (e45 l _ h5))
    have hnx : srow (nextRow row) < 4000000 := by have := srow_next row; omega
    refine s_asgR (er_next rfl (sq_of hq6) (h4.tex numI t6) (by have := len_le_srow (nextRow row); omega)) fun v H7 e7 ⟨p, us, hv, hp, hp7, hus⟩ => ?_
    subst hv
    have hpl : p ≠ l := fun e => by rw [e, upd_same] at hp; cases hp
    refine ⟨m', Nat.lt_succ_self _, p, _, _, _, nextRow row, us, ys ++ [V.ref q], acc ++ [row], rfl, hl0, ?_, hpl, hp7, hus, e7 l _ upd_same, ?_, ?_, hrow_next.mp h8, hnx, by rw [List.length_append]; show acc.length + 1 + m' ≤ _; omega⟩
    · exact (Ex.mut (e3.trans e45) hl0).trans e7
    · refine ItemsR.ex (R := fun r v H => RowI K r v H ∧ v ≠ .ref l) (fun r v Ha Hb e ⟨⟨q, zs, g1, g2, g3⟩, g4⟩ => ⟨⟨q, zs, g1, e q _ g2, g3.ex (fun a => (numI a).mono) e⟩, g4⟩) ?_ e7
      refine ItemsR.snoc ⟨h6.1, fun i y a g1 g2 => ?_⟩ ⟨⟨q, zs, rfl, hq6, h4.tex numI t6⟩, fun e => hql (V.ref.inj e)⟩
      obtain ⟨⟨q2, zs2, k1, k2, k3⟩, k4⟩ := h6.2 i y a g1 g2
      refine ⟨⟨q2, zs2, k1, ?_, k3.tex numI t6⟩, k4⟩
      rw [upd_ne (fun e => k4 (by rw [k1, e]))]
      exact e45 q2 _ k2
    · rw [← h7, List.append_assoc, show levF (m' + 1) row = row :: levF m' (nextRow row) from by rw [levF, if_neg hrow]]
      rfl
  · have hz : zs = [] := by
      cases zs with
      | nil => rfl
      | cons a b => cases hb
    subst hz
    have hr : row = [] := List.length_eq_zero_iff.mp (by rw [← h4.1]; rfl)
    subst hr
    have hlev : levF m ([] : List T) = [] := by cases m <;> rfl
    rw [hlev, List.append_nil] at h7
    subst h7
    refine s_ret (ev_var rfl) fun H5 e5 => k _ _ ((e3.trans e4).trans e5) ⟨l, ys, rfl, (e4.trans e5) l _ h5, ?_⟩
    exact (ItemsR.imp h6 fun a y _ h => h.1).ex (fun r v Ha Hb e ⟨q, zs, g1, g2, g3⟩ => ⟨q, zs, g1, e q _ g2, g3.ex (fun a => (numI a).mono) e⟩) (e4.trans e5)
end Sk

set_option Elab.async false
set_option linter.all false
set_option maxRecDepth 100000
set_option maxHeartbeats 2000000
namespace Sk
open PySem L2 Evl
section
variable {K : PySem.W.Frag} {σ : L2.St} {H : Hp} {te : TE}
/-- sum of a list that was just made -/
theorem ev_sum {l : List Int} (h : ER te σ H (fun v H2 => ∃ p ys, v = .ref p ∧ SqL K H2 p ys ∧ ItemsR IntI l ys H2)) : Ev (tCB (rSum K) (tCons te tNil)) σ H (.int l.sum) := fun H1 e Q q =>
  h H1 e _ fun v H2 e2 ⟨p, ys, hv, h1, h2⟩ => ⟨p, l, by rw [hv], by rw [← h2.ints]; exact h1, q H2 e2⟩
theorem ev_lenR {n : Nat} (h : ER te σ H (fun v H2 => ∃ p ys, v = .ref p ∧ (SqL K H2 p ys ∨ SqT K H2 p ys) ∧ ys.length = n)) : Ev (tCB (rLenS K) (tCons te tNil)) σ H (.int (n : Int)) := fun H1 e Q q =>
  h H1 e _ fun v H2 e2 ⟨p, ys, hv, h1, h2⟩ => ⟨p, ys, by rw [hv], h1, by rw [h2]; exact q H2 e2⟩
end
theorem rowI {K : PySem.W.Frag} (r : List T) : Mono (RowI K r) := fun v Ha Hb e ⟨q, zs, g1, g2, g3⟩ => ⟨q, zs, g1, e q _ g2, g3.ex (fun a => (numI a).mono) e⟩
theorem intI (n : Int) : MonoT (IntI n) := fun _ _ _ _ h => h
/-! ### size_of, height_of, is_allowed, allowed -/
def pSize (K : PySem.W.Frag) : V → Hp → VP → Prop := fun x H R => ∃ t : T, NumV K H x t ∧ t.szk ∧ R = fun v _ => v = .int (t.size : Int)
def sp_size_of (K : PySem.W.Frag) : Sp := spF1 (pSize K)
def t_size_of (K : PySem.W.Frag) : TS := (tRet (tCB (rSum K) (tCons (tLc (iList K (tCall (sp_levels K) [] E0 (tCons (tVar 0) tNil))) (gName 1) tYes (tCB (rLenS K) (tCons (tVar 1) tNil)) [1]) tNil)))
theorem er_levels {K : PySem.W.Frag} {σ : L2.St} {H : Hp} {x : V} {t : T} {i : Nat} (hv : σ[i]? = some (some x)) (hx : NumV K H x t) (hsz : t.szk) : ER (tCall (sp_levels K) [] E0 (tCons (tVar i) tNil)) σ H (ListR (RowI K) (levF (t.height + 1) [t])) :=
  er_call1 (R1 := fun v H => NumV K H v t) (er_var hv fun H1 e1 => hx.ex e1) numT.mono fun v H1 e1 hv => ⟨t, hv, hsz, rfl⟩
theorem pure_size_of {K : PySem.W.Frag} {vs : List V} {H : Hp} {Q : VK} {E : XK} (h : sp_size_of K vs H Q E) : t_size_of K { nx := fun _ H' => Q .non H', rt := Q } (start ["number", "row"] vs) H := by
  obtain ⟨x, R, rfl, ⟨t, hx, hsz, rfl⟩, k⟩ := h
  have hlen := levF_len (k := t.height + 1) (row := [t]) (by rw [hrow_one]; exact Nat.le_refl _)
  have hsum := levF_sum (k := t.height + 1) (row := [t]) (by rw [hrow_one]; exact Nat.le_refl _)
  rw [hrow_one] at hlen
  rw [srow_one] at hsum
  have hhs := hsz.2
  refine s_ret (ev_sum (l := (levF (t.height + 1) [t]).map fun r => (r.length : Int)) ?_) fun H1 e1 => k _ _ e1 ?_
  · refine (er_lcI (R1 := RowI K) (R2 := fun r => IntI (r.length : Int)) (l := levF (t.height + 1) [t]) ((er_levels rfl hx hsz).imp fun v H1 e ⟨p, ys, h1, h2, h3⟩ => ⟨p, ys, h1, sq_of h2, h3⟩) rowI (fun a => intI _) (by omega) ?_).imp fun v H1 e ⟨p, ys, h1, h2, h3, h4⟩ => ⟨p, ys, h1, sq_of h3, ⟨by rw [List.length_map]; exact h4.1, fun i y a g1 g2 => ?_⟩⟩
    · rintro i r x H1 hi ⟨q, zs, rfl, hq, hz⟩ e1 Qk kk
      refine ⟨rfl, ?_⟩
      refine ev_len (xs := zs) (ev_var rfl) (sq_of hq) H1 (Ex.refl _) _ fun H2 e2 => kk _ _ e2 ?_
      show V.int _ = V.int _
      rw [hz.1]
    · rw [List.getElem?_map] at g2
      cases hq : (levF (t.height + 1) [t])[i]? with
      | none => rw [hq] at g2; cases g2
      | some z => rw [hq] at g2; cases g2; exact h4.2 i y z g1 hq
  · show V.int _ = V.int _
    have e : ∀ l : List (List T), (l.map fun r => (r.length : Int)).sum = ((l.map List.length).sum : Nat) := by
      intro l
      induction l with
      | nil => rfl
      | cons a r ih => rw [List.map_cons, List.map_cons, List.sum_cons, List.sum_cons, ih]; omega
    rw [e, hsum]
def pHeight (K : PySem.W.Frag) : V → Hp → VP → Prop := fun x H R => ∃ t : T, NumV K H x t ∧ t.szk ∧ R = fun v _ => v = .int (t.height : Int)
def sp_height_of (K : PySem.W.Frag) : Sp := spF1 (pHeight K)
def t_height_of (K : PySem.W.Frag) : TS := (tRet (tOp xSub (tCB (rLenS K) (tCons (tCall (sp_levels K) [] E0 (tCons (tVar 0) tNil)) tNil)) (tC (.int 1))))
theorem pure_height_of {K : PySem.W.Frag} {vs : List V} {H : Hp} {Q : VK} {E : XK} (h : sp_height_of K vs H Q E) : t_height_of K { nx := fun _ H' => Q .non H', rt := Q } (start ["number"] vs) H := by
  obtain ⟨x, R, rfl, ⟨t, hx, hsz, rfl⟩, k⟩ := h
  have hlen := levF_len (k := t.height + 1) (row := [t]) (by rw [hrow_one]; exact Nat.le_refl _)
  rw [hrow_one] at hlen
  refine s_ret (ev_sub (ev_lenR (n := t.height + 1) ((er_levels rfl hx hsz).imp fun v H1 e ⟨p, ys, h1, h2, h3⟩ => ⟨p, ys, h1, .inl (sq_of h2), h3.1.trans hlen⟩)) ev_c) fun H1 e1 => k _ _ e1 ?_
  show V.int _ = V.int _
  congr 1
  omega
def pIsAllowed (K : PySem.W.Frag) : V → Hp → VP → Prop := fun x H R => ∃ t : T, NumV K H x t ∧ t.szk ∧ R = fun v _ => v = .bl (decide t.fits)
def sp_is_allowed (K : PySem.W.Frag) : Sp := spF1 (pIsAllowed K)
def t_is_allowed (K : PySem.W.Frag) : TS := (tSeq (tAsg (tCall (sp_levels K) [] E0 (tCons (tVar 0) tNil)) (gName 1))
    (tRet (tAndV (tOp xLe (tCB (rSum K) (tCons (tLc (iList K (tVar 1)) (gName 2) tYes (tCB (rLenS K) (tCons (tVar 2) tNil)) [2]) tNil)) (tC (.int 300))) (tOp xLe (tCB (rLenS K) (tCons (tVar 1) tNil)) (tOp xAdd (tC (.int 40)) (tC (.int 1)))))))
theorem lens_cast (l : List (List T)) : (l.map fun r => (r.length : Int)).sum = ((l.map List.length).sum : Nat) := by
  induction l with
  | nil => rfl
  | cons a r ih => rw [List.map_cons, List.map_cons, List.sum_cons, List.sum_cons, ih]; omega
theorem pure_is_allowed {K : PySem.W.Frag} {vs : List V} {H : Hp} {Q : VK} {E : XK} (h : sp_is_allowed K vs H Q E) : t_is_allowed K { nx := fun _ H' => Q .non H', rt := Q } (start ["number", "rows", "row"] vs) H := by
  obtain ⟨x, R, rfl, ⟨t, hx, hsz, rfl⟩, k⟩ := h
  have hlen := levF_len (k := t.height + 1) (row := [t]) (by rw [hrow_one]; exact Nat.le_refl _)
  have hsum := levF_sum (k := t.height + 1) (row := [t]) (by rw [hrow_one]; exact Nat.le_refl _)
  rw [hrow_one] at hlen
  rw [srow_one] at hsum
  have hhs := hsz.2
  refine q_asgR (er_levels rfl hx hsz) fun v H1 e1 ⟨p, ys, hv, h2, h3⟩ => ?_
  subst hv
  refine s_ret (ev_andV (a := decide ((t.size : Int) ≤ 300)) (b := decide (((t.height + 1 : Nat) : Int) ≤ 40 + 1)) (ev_le (ev_is (ev_sum (l := (levF (t.height + 1) [t]).map fun r => (r.length : Int)) ?_) (by rw [lens_cast, hsum])) ev_c) fun _ => ev_le (ev_is (ev_lenL (ev_var rfl) (sq_of h2)) (by rw [h3.1, hlen])) (ev_add ev_c ev_c)) fun H2 e2 => k _ _ (e1.trans e2) ?_
  · refine (er_lcI (R1 := RowI K) (R2 := fun r => IntI (r.length : Int)) (l := levF (t.height + 1) [t]) (er_ev (ev_var rfl) fun H2 e2 => ⟨p, ys, rfl, sq_of (e2 p _ h2), h3.ex rowI e2⟩) rowI (fun a => intI _) (by omega) ?_).imp fun v H1 e ⟨p, ys, h1, h2, h3, h4⟩ => ⟨p, ys, h1, sq_of h3, ⟨by rw [List.length_map]; exact h4.1, fun i y a g1 g2 => ?_⟩⟩
    · rintro i r x H1 hi ⟨q, zs, rfl, hq, hz⟩ e1 Qk kk
      refine ⟨rfl, ?_⟩
      refine ev_len (xs := zs) (ev_var rfl) (sq_of hq) H1 (Ex.refl _) _ fun H2 e2 => kk _ _ e2 ?_
      show V.int _ = V.int _
      rw [hz.1]
    · rw [List.getElem?_map] at g2
      cases hq : (levF (t.height + 1) [t])[i]? with
      | none => rw [hq] at g2; cases g2
      | some z => rw [hq] at g2; cases g2; exact h4.2 i y z g1 hq
  · show V.bl _ = V.bl _
    congr 1
    rw [Bool.eq_iff_iff, Bool.and_eq_true, decide_eq_true_eq, decide_eq_true_eq, decide_eq_true_eq]
    unfold T.fits
    omega
def pAllowed (K : PySem.W.Frag) (CL : Addr) : V → Hp → VP → WP → Prop := fun x H R W => ∃ t : T, NumV K H x t ∧ t.szk ∧ (t.fits → ∀ v H', NumV K H' v t → R v H') ∧ (¬ t.fits → W CL)
def sp_allowed (K : PySem.W.Frag) (CL : Addr) : Sp := spX1 K (pAllowed K CL)
def t_allowed (K : PySem.W.Frag) (a_TooLarge : Addr) (E : XK) : TS := (tSeq (tIfS (tNot (tB (tCall (sp_is_allowed K) [] E0 (tCons (tVar 0) tNil)))) (tRaise K E a_TooLarge) tNext)
    (tRet (tVar 0)))
theorem pure_allowed {K : PySem.W.Frag} {CL : Addr} {vs : List V} {H : Hp} {Q : VK} {E : XK} (h : sp_allowed K CL vs H Q E) : t_allowed K CL E { nx := fun _ H' => Q .non H', rt := Q } (start ["number"] vs) H := by
  obtain ⟨x, R, W, rfl, ⟨t, hx, hsz, hR, hW⟩, k, kE⟩ := h
  refine q_when (b := !decide t.fits) (et_not (et_B (ev_er (er_call1 (R1 := fun v H => NumV K H v t) (er_var rfl fun H1 e1 => hx.ex e1) numT.mono fun v H1 e1 hv => ⟨t, hv, hsz, rfl⟩)))) (fun hc H1 e1 => ?_) (fun hc H1 e1 => ?_)
  · exact (fun Hz ez => kE CL Hz (e1.trans ez) (hW (by simpa using hc)))
  · exact s_ret (ev_var rfl) fun H2 e2 => k _ _ (e1.trans e2) (hR (by simpa using hc) _ _ (hx.ex (e1.trans e2)))
/-! ### sign_of, of_int -/
def pSign (K : PySem.W.Frag) : V → Hp → VP → Prop := fun x H R => ∃ t : T, NumV K H x t ∧ R = fun v _ => v = .int t.sgn
def sp_sign_of (K : PySem.W.Frag) : Sp := spF1 (pSign K)
def t_sign_of (K : PySem.W.Frag) : TS := (tRet (tIf (tTruK K (tVar 0)) (tOp (rIxT K) (tOp (rIxT K) (tVar 0) (tC (.int 0))) (tC (.int 0))) (tC (.int 0))))
theorem pure_sign_of {K : PySem.W.Frag} {vs : List V} {H : Hp} {Q : VK} {E : XK} (h : sp_sign_of K vs H Q E) : t_sign_of K { nx := fun _ H' => Q .non H', rt := Q } (start ["number"] vs) H := by
  obtain ⟨x, R, rfl, ⟨t, hx, rfl⟩, k⟩ := h
  obtain ⟨a, xs, rfl, hs, ht⟩ := hx.out
  refine s_ret (ev_if (et_truT (ev_var rfl) hs) (fun hc => ?_) (fun hc => ?_)) fun H1 e1 => k _ _ e1 rfl
  · cases t with
    | nil => rw [ht.nil_out] at hc; cases hc
    | cons s e r =>
      obtain ⟨p, w, ys, rfl, h1, h2, h3⟩ := ht.cons_out
      exact ev_atT (ev_atT (ev_var rfl) ev_c hs (at_of (j := 0) rfl rfl)) ev_c h1 (at_of (j := 0) rfl rfl)
  · cases t with
    | nil => exact ev_c
    | cons s e r =>
      obtain ⟨p, w, ys, rfl, h1, h2, h3⟩ := ht.cons_out
      cases hc
/-- of_int: the number, TooLarge if it is not allowed, NotAllowed if the integer is too long -/
def pOfInt (K : PySem.W.Frag) (CN CL : Addr) : V → Hp → VP → WP → Prop := fun x H R W => ∃ n : Int, x = .int n ∧
  (n.natAbs < 2 ^ 2900 → (toT n).szk ∧ ((toT n).fits → ∀ v H', NumV K H' v (toT n) → R v H') ∧ (¬ (toT n).fits → W CL)) ∧ (¬ n.natAbs < 2 ^ 2900 → W CN)
def sp_of_int (K : PySem.W.Frag) (CN CL : Addr) : Sp := spX1 K (pOfInt K CN CL)
def t_of_int (K : PySem.W.Frag) (a_NotAllowed : Addr) (a_TooLarge : Addr) (E : XK) : TS := (tSeq (tIfS (tTest (tOp xGt (tBits (tVar 0)) (tC (.int 2900)))) (tRaise K E a_NotAllowed) tNext)
    (tRet (tCall (sp_allowed K a_TooLarge) [] E (tCons (tCall (sp_bare_number K 7) [] E0 (tCons (tVar 0) tNil)) tNil))))
theorem intBits_le_iff (n : Int) (k : Nat) : Builtin.Int.intBits n ≤ k ↔ n.natAbs < 2 ^ k := by
  unfold Builtin.Int.intBits
  by_cases h : n = 0
  · subst h; simp [Nat.two_pow_pos]
  · rw [if_neg (by simpa using h)]
    have h1 : n.natAbs ≠ 0 := by omega
    constructor
    · intro h2
      exact (Nat.log2_lt h1).mp (by omega)
    · intro h2
      have := (Nat.log2_lt h1).mpr h2
      omega
theorem pure_of_int {K : PySem.W.Frag} {CN CL : Addr} {vs : List V} {H : Hp} {Q : VK} {E : XK} (h : sp_of_int K CN CL vs H Q E) : t_of_int K CN CL E { nx := fun _ H' => Q .non H', rt := Q } (start ["value"] vs) H := by
  obtain ⟨x, R, W, rfl, ⟨n, rfl, h1, h2⟩, k, kE⟩ := h
  have hbits := intBits_le_iff n 2900
  refine q_when (b := decide ((2900 : Int) < ((Builtin.Int.intBits n : Nat) : Int))) (et_test (ev_gt (ev_bits (ev_var rfl)) ev_c)) (fun hc H1 e1 => ?_) (fun hc H1 e1 => ?_)
  · have hc' := of_decide_eq_true hc
    exact (fun Hz ez => kE CN Hz (e1.trans ez) (h2 fun q => by have := hbits.mpr q; omega))
  · have hc' := of_decide_eq_false hc
    have hn : n.natAbs < 2 ^ 2900 := hbits.mp (by omega)
    obtain ⟨g1, g2, g3⟩ := h1 hn
    have hcb : n.natAbs < Cb 7 := lt_Cb7 hn (by decide)
    exact x_call1 (R1 := fun v H => NumV K H v (toT n)) (er_call1 (R1 := fun v _ => v = .int n) (er_is (ev_var rfl)) monoC fun v H2 e2 hv => ⟨n, hv, hcb, Nat.le_refl _, rfl⟩) numT.mono _ fun v H2 e2 hn2 =>
      ⟨R, W, ⟨toT n, hn2, g1, g2, g3⟩, fun w H3 e3 hw => k w H3 ((e1.trans e2).trans e3) hw, fun C H3 e3 hw => kE C H3 ((e1.trans e2).trans e3) hw⟩
end Sk

set_option Elab.async false
set_option linter.all false
set_option maxRecDepth 100000
set_option maxHeartbeats 2000000
namespace Sk
open PySem L2 Evl
def rEqN (K : PySem.W.Frag) : R2 := fun x y H Q => ∃ d e, Dp K H x d ∧ Dp K H y e ∧ d.canLay0 = true ∧ e.canLay0 = true ∧ d.depth ≤ 100 ∧ Q (.bl (d.eqv e)) H
theorem op_eqN {X : Cx} (hu : X.A.units + 150 < cLine) : OpR X (compareOp .Eq) (rEqN X.K) := fun pins s σ H x y v u Q I r1 r2 ⟨d, e, h1, h2, h3, h4, h5, q⟩ => by
  obtain ⟨as, ra⟩ := Dp.reads I d x v h1 r1
  obtain ⟨bs, rb⟩ := Dp.reads I e y u h2 r2
  exact SeqAt.compareEq_reads ra rb h3 h4 (by have := Nat.min_le_left d.depth e.depth; omega) ⟨.bl _, H, I, rfl, q⟩
def rNeN (K : PySem.W.Frag) : R2 := fun x y H Q => ∃ d e, Dp K H x d ∧ Dp K H y e ∧ d.canLay0 = true ∧ e.canLay0 = true ∧ d.depth ≤ 100 ∧ Q (.bl (!d.eqv e)) H
theorem op_neN {X : Cx} (hu : X.A.units + 150 < cLine) : OpR X (compareOp .NotEq) (rNeN X.K) := fun pins s σ H x y v u Q I r1 r2 ⟨d, e, h1, h2, h3, h4, h5, q⟩ => by
  obtain ⟨as, ra⟩ := Dp.reads I d x v h1 r1
  obtain ⟨bs, rb⟩ := Dp.reads I e y u h2 r2
  exact SeqAt.compareNe_reads ra rb h3 h4 (by have := Nat.min_le_left d.depth e.depth; omega) ⟨.bl _, H, I, rfl, q⟩

section
variable {K : PySem.W.Frag} {σ : L2.St} {H : Hp} {te tf : TE} {t u : T}
theorem ev_eqN (h : ER te σ H (fun v H2 => NumV K H2 v t)) (h' : ER tf σ H (fun v H2 => NumV K H2 v u)) (hh : t.height ≤ 48) : Ev (tOp (rEqN K) te tf) σ H (.bl (decide (t = u))) := fun H1 e Q q =>
  h H1 e _ fun v H2 e2 r1 => h' H2 (e.trans e2) _ fun w H3 e3 r2 => ⟨t.data, u.data, r1.ex e3, r2, data_lay t, data_lay u, by have := data_depth t; omega, by rw [data_eqv]; exact q H3 (e2.trans e3)⟩
theorem ev_neN (h : ER te σ H (fun v H2 => NumV K H2 v t)) (h' : ER tf σ H (fun v H2 => NumV K H2 v u)) (hh : t.height ≤ 48) : Ev (tOp (rNeN K) te tf) σ H (.bl (!decide (t = u))) := fun H1 e Q q =>
  h H1 e _ fun v H2 e2 r1 => h' H2 (e.trans e2) _ fun w H3 e3 r2 => ⟨t.data, u.data, r1.ex e3, r2, data_lay t, data_lay u, by have := data_depth t; omega, by rw [data_eqv]; exact q H3 (e2.trans e3)⟩
end
end Sk

set_option Elab.async false
set_option linter.all false
set_option maxRecDepth 100000
set_option maxHeartbeats 2000000
namespace Sk
open PySem L2 Evl
/-! ### slices of tuples, zip of tuples -/
section
variable {K : PySem.W.Frag} {σ : L2.St} {H : Hp} {te tf ta : TE}
/-- number[n:] -/
theorem er_fromT {p : Addr} {xs : List V} {n : Nat} (h : Ev te σ H (.ref p)) (hp : SqT K H p xs) (hi : Ev ta σ H (.int (n : Int))) : ER (tSl (rSlA K) te (tPart ta) tNoPart) σ H (fun v H2 => ∃ q, v = .ref q ∧ SqT K H2 q (xs.drop n)) := fun H1 e Q q => by
  have hcut : cutV xs (some (n : Int)) none = xs.drop n := by
    unfold cutV HT.sIx
    simp only
    rw [if_neg (by omega), Int.toNat_natCast]
    rcases Nat.le_total n xs.length with h | h
    · rw [Nat.min_eq_left h, List.take_of_length_le (by rw [List.length_drop]; exact Nat.le_refl _)]
    · rw [Nat.min_eq_right h, List.drop_length, List.drop_of_length_le h]; simp
  refine h H1 e _ fun H2 e2 => ?_
  refine eo_some hi H2 (e.trans e2) _ fun H3 e3 => ?_
  refine eo_none H3 ((e.trans e2).trans e3) _ fun H4 e4 => ?_
  have e14 := e2.trans (e3.trans e4)
  refine ⟨p, xs, rfl, ex_t (e.trans e14) hp, fun hw => ?_, fun hw r hr => ?_⟩
  · refine q _ H4 e14 ⟨p, rfl, ?_⟩
    have h2 := hw.1
    unfold HT.sIx at h2
    simp only at h2
    rw [if_neg (by omega), Int.toNat_natCast] at h2
    have : xs.drop n = xs := by
      rcases Nat.eq_zero_or_pos n with h | h
      · subst h; rfl
      · have : xs = [] := List.length_eq_zero_iff.mp (by omega)
        subst this; simp
    rw [this]
    exact ex_t (e.trans e14) hp
  · refine q _ _ (e14.trans (Ex.new hr)) ⟨r, rfl, st_of ?_⟩
    rw [upd_same, hcut]
/-- number[:keep] -/
theorem er_upTo {p : Addr} {xs : List V} {n : Nat} (h : Ev te σ H (.ref p)) (hp : SqT K H p xs) (hi : Ev ta σ H (.int (n : Int))) : ER (tSl (rSlA K) te tNoPart (tPart ta)) σ H (fun v H2 => ∃ q, v = .ref q ∧ SqT K H2 q (xs.take n)) := fun H1 e Q q => by
  have hcut : cutV xs none (some (n : Int)) = xs.take n := by
    unfold cutV HT.sIx
    simp only [List.drop_zero, Nat.sub_zero]
    rw [if_neg (by omega), Int.toNat_natCast]
    rcases Nat.le_total n xs.length with h | h
    · rw [Nat.min_eq_left h]
    · rw [Nat.min_eq_right h, List.take_length, List.take_of_length_le h]
  refine h H1 e _ fun H2 e2 => ?_
  refine eo_none H2 (e.trans e2) _ fun H3 e3 => ?_
  refine eo_some hi H3 ((e.trans e2).trans e3) _ fun H4 e4 => ?_
  have e14 := e2.trans (e3.trans e4)
  refine ⟨p, xs, rfl, ex_t (e.trans e14) hp, fun hw => ?_, fun hw r hr => ?_⟩
  · refine q _ H4 e14 ⟨p, rfl, ?_⟩
    have h2 := hw.2
    unfold HT.sIx at h2
    simp only at h2
    rw [if_neg (by omega), Int.toNat_natCast] at h2
    rw [List.take_of_length_le (by omega)]
    exact ex_t (e.trans e14) hp
  · refine q _ _ (e14.trans (Ex.new hr)) ⟨r, rfl, st_of ?_⟩
    rw [upd_same, hcut]
theorem walk_zipT {a b : Addr} {xs ys : List V} {n : Nat} (hn : n = min xs.length ys.length) : Walk (RZ.ItzT K a b) n (fun H => SqT K H a xs ∧ SqT K H b ys) (YPair (fun i => xs[i]?) (fun i => ys[i]?)) := by
  subst hn
  refine ⟨fun i _ hi q => ?_, fun _ q => ⟨xs, ys, q.1, q.2, by omega⟩, fun i H v H' _ q y => ?_⟩
  · have h1 : i < xs.length := by omega
    have h2 : i < ys.length := by omega
    exact ⟨xs, ys, xs[i], ys[i], q.1, q.2, by simp [h1], by simp [h2]⟩
  · obtain ⟨T, x, z, h1, h2, h3, h4, h5⟩ := y
    exact ⟨T, x, z, h1, h2, h3, h4 xs q.1, h5 ys q.2⟩
end
section
variable {K : PySem.W.Frag} {σ : L2.St} {H : Hp} {D : Ends} {tz tu tb : TS}
/-- for x, y in zip(a, b), both tuples, with an else -/
theorem q_forZE {i j pi pj : Nat} {a b : Addr} {xs ys : List V} {n : Nat} (hi : σ[pi]? = some (some (.ref a))) (hj : σ[pj]? = some (some (.ref b))) (ha : SqT K H a xs) (hb : SqT K H b ys) (hn : n = min xs.length ys.length) (Pv : Nat → L2.St → Hp → Prop) (h0 : Pv 0 σ H) (hq : ∀ m σ' H', Pv m σ' H' → Ex H H')
    (hs : ∀ m x y σ' H', m < n → xs[m]? = some x → ys[m]? = some y → Pv m σ' H' → ∀ H1, Ex H' H1 → tb { D with nx := Pv (m + 1), ct := Pv (m + 1), bk := tz D } ((σ'.set i (some x)).set j (some y)) H1) (hd : ∀ σ' H', Pv n σ' H' → tu { D with nx := tz D } σ' H') :
    tSeq (tForE (RZ.iZipA K (tCons (tVar pi) (tCons (tVar pj) tNil))) (gTup K 2 (gCons (gName i) (gCons (gName j) gNil))) tb tu) tz D σ H := by
  refine ⟨_, hi, _, hj, a, b, xs, ys, rfl, .inr ⟨ha, hb, ?_⟩⟩
  refine forE_by n Pv h0 (fun m σ' H' hm p => ?_) (fun σ' H' p => ?_) (fun m v σ' H' H'' hm p y => ?_) hd
  · exact (walk_zipT hn).goes m H' hm ⟨ex_t (hq _ _ _ p) ha, ex_t (hq _ _ _ p) hb⟩
  · exact (walk_zipT hn).stops H' ⟨ex_t (hq _ _ _ p) ha, ex_t (hq _ _ _ p) hb⟩
  · obtain ⟨T, x, z, h1, h2, h3, h4, h5⟩ := y
    subst h1 h3
    refine g_pair (st_of upd_same) ?_
    exact hs m x z σ' H' hm (h4 xs (ex_t (hq _ _ _ p) ha)) (h5 ys (ex_t (hq _ _ _ p) hb)) p _ (Ex.new h2)
theorem s_mulI {i : Nat} {a b : Int} {te : TE} (hx : σ[i]? = some (some (.int a))) (h : Ev te σ H (.int b)) (hc : CMul a b) (k : ∀ H1, Ex H H1 → D.nx (σ.set i (some (.int (a * b)))) H1) : tAug i te xMul D σ H :=
  ⟨.int a, hx, h H (Ex.refl H) _ fun H1 e => ⟨a, b, rfl, rfl, hc, k H1 e⟩⟩
theorem ip_mul {X : Cx} : PIp X .Mult xMul := fun pins s σ H x y v u Q I r1 r2 h => iop_mul pins s σ H x y v u Q I r1 r2 h
end

/-! ### terms that differ -/
def termD (x : Int × T) : PyData := .tuple [.int x.1, x.2.data]
theorem term_dp {K : PySem.W.Frag} {H : Hp} {x : Int × T} {v : V} (h : TermI K x v H) : Dp K H v (termD x) := by
  obtain ⟨q, w, rfl, h1, h2⟩ := h
  exact .tup h1 (.cons (.int _) (.cons h2 .nil))
theorem term_eqv (x y : Int × T) : (termD x).eqv (termD y) = decide (x = y) := by
  obtain ⟨s, e⟩ := x
  obtain ⟨s', e'⟩ := y
  have h : PyData.eqv (termD (s, e)) (termD (s', e')) = ((s == s') && (PyData.eqv e.data e'.data && true)) := by simp only [termD, PyData.eqv, PyData.eqvAll]
  rw [h, data_eqv, Bool.eq_iff_iff]
  simp
theorem term_lay (x : Int × T) : (termD x).canLay0 = true := by
  have := data_lay x.2
  simp [termD, PyData.canLay0, PyData.canLayAll0, this]
theorem term_depth (x : Int × T) : (termD x).depth ≤ 2 * x.2.height + 4 := by
  have := data_depth x.2
  simp [termD, PyData.depth, PyData.depthAll]
  omega
theorem ev_neTm {K : PySem.W.Frag} {σ : L2.St} {H : Hp} {i j : Nat} {x y : Int × T} {v w : V} (h1 : σ[i]? = some (some v)) (h2 : σ[j]? = some (some w)) (hx : TermI K x v H) (hy : TermI K y w H) (hh : x.2.height ≤ 46) : Ev (tOp (rNeN K) (tVar i) (tVar j)) σ H (.bl (!decide (x = y))) := fun H1 e Q q =>
  ⟨v, h1, w, h2, termD x, termD y, term_dp ((termI x).mono _ _ _ e hx), term_dp ((termI y).mono _ _ _ e hy), term_lay x, term_lay y, by have := term_depth x; omega, by rw [term_eqv]; exact q H1 (Ex.refl H1)⟩
/-! ### order -/
def pOrder (K : PySem.W.Frag) : V → V → Hp → VP → Prop := fun x y H R => ∃ (t u : T), NumV K H x t ∧ NumV K H y u ∧ t.can ∧ u.can ∧ t.height ≤ 47 ∧ t.size < 90000 ∧ u.size < 90000 ∧ R = fun v _ => v = .int (cmpI t.val u.val)
def sp_order (K : PySem.W.Frag) : Sp := spF2 (pOrder K)
def t_order (K : PySem.W.Frag) : TS := (tSeq (tIfS (tTest (tOp (rEqN K) (tVar 0) (tVar 1))) (tRet (tC (.int 0))) tNext)
    (tSeq (tAsg (tC (.int 1)) (gName 2))
    (tSeq (tWhile (tAnd (tTruK K (tVar 0)) (tTruK K (tVar 1))) (tSeq (tForE (RZ.iZipA K (tCons (tVar 0) (tCons (tVar 1) tNil))) (gTup K 2 (gCons (gName 3) (gCons (gName 4) gNil))) (tIfS (tTest (tOp (rNeN K) (tVar 3) (tVar 4))) tBreak tNext) (tSeq (tPar 0 1 (tCons (tSl (rSlA K) (tVar 0) (tPart (tCB (rLenS K) (tCons (tVar 1) tNil))) tNoPart) (tCons (tSl (rSlA K) (tVar 1) (tPart (tCB (rLenS K) (tCons (tVar 0) tNil))) tNoPart) tNil)))
    tBreak))
    (tSeq (tAsg (tVar 3) (gTup K 2 (gCons (gName 5) (gCons (gName 0) gNil))))
    (tSeq (tAsg (tVar 4) (gTup K 2 (gCons (gName 6) (gCons (gName 1) gNil))))
    (tSeq (tIfS (tTest (tOp rNe (tVar 5) (tVar 6))) (tRet (tOp xMul (tVar 2) (tVar 5))) tNext)
    (tAug 2 (tVar 5) xMul))))))
    (tRet (tIf (tTruK K (tVar 0)) (tOp xMul (tVar 2) (tOp (rIxT K) (tOp (rIxT K) (tVar 0) (tC (.int 0))) (tC (.int 0)))) (tOp xMul (tUn xNeg (tVar 2)) (tOp (rIxT K) (tOp (rIxT K) (tVar 1) (tC (.int 0))) (tC (.int 0)))))))))
def WOrder (K : PySem.W.Frag) (t u : T) (H0 : Hp) (m : Nat) (σ : L2.St) (H : Hp) : Prop := ∃ (v1 v2 : V) (t1 u1 : T) (tn : Int) (z3 z4 z5 z6 : Option V), σ = [some v1, some v2, some (.int tn), z3, z4, z5, z6] ∧ Ex H0 H ∧ m = t1.size ∧ NumV K H v1 t1 ∧ NumV K H v2 u1 ∧ t1.can ∧ u1.can ∧ t1 ≠ u1 ∧ (tn = 1 ∨ tn = -1) ∧ t1.height ≤ 47 ∧ t1.size < 90000 ∧ u1.size < 90000 ∧ cmpI t.val u.val = tn * cmpI t1.val u1.val
/-- the first terms of what is left, or none -/
theorem ev_firstSign {K : PySem.W.Frag} {σ : L2.St} {H : Hp} {i : Nat} {a : Addr} {s : Int} {e r : T} (hv : σ[i]? = some (some (.ref a))) (h : NumV K H (.ref a) (.cons s e r)) : Ev (tOp (rIxT K) (tOp (rIxT K) (tVar i) (tC (.int 0))) (tC (.int 0))) σ H (.int s) := by
  obtain ⟨b, xs, hb, hs, ht⟩ := h.out
  cases hb
  obtain ⟨p, w, ys, rfl, h1, h2, h3⟩ := ht.cons_out
  exact ev_atT (ev_atT (ev_var hv) ev_c hs (at_of (j := 0) rfl rfl)) ev_c h1 (at_of (j := 0) rfl rfl)
theorem ord_tail {K : PySem.W.Frag} {Q : VK} {H H0 : Hp} {v1 v2 : V} {t1 u1 : T} {tn : Int} {z3 z4 z5 z6 : Option V} {c : Int} (e0 : Ex H0 H) (k : ∀ v H', Ex H0 H' → v = .int c → Q v H') (h1 : NumV K H v1 t1) (h2 : NumV K H v2 u1) (htn : tn = 1 ∨ tn = -1)
    (hc : (∃ s e r, t1 = .cons s e r ∧ (s = 1 ∨ s = -1) ∧ c = tn * s) ∨ (t1 = .nil ∧ ∃ s e r, u1 = .cons s e r ∧ (s = 1 ∨ s = -1) ∧ c = -tn * s)) :
    tRet (tIf (tTruK K (tVar 0)) (tOp xMul (tVar 2) (tOp (rIxT K) (tOp (rIxT K) (tVar 0) (tC (.int 0))) (tC (.int 0)))) (tOp xMul (tUn xNeg (tVar 2)) (tOp (rIxT K) (tOp (rIxT K) (tVar 1) (tC (.int 0))) (tC (.int 0))))) { nx := fun _ H' => Q .non H', rt := Q } [some v1, some v2, some (.int tn), z3, z4, z5, z6] H := by
  obtain ⟨a, xs, rfl, ha, hx⟩ := h1.out
  obtain ⟨b, ys, rfl, hb, hy⟩ := h2.out
  rcases hc with ⟨s, e, r, rfl, hs, rfl⟩ | ⟨rfl, s, e, r, rfl, hs, rfl⟩
  · refine s_ret (v := .int (tn * s)) (ev_if (b := true) ?_ (fun _ => ev_mul (ev_var rfl) (ev_firstSign rfl h1) (.inl (by rcases htn with rfl | rfl <;> decide))) (fun h => by cases h)) fun H1 e1 => k _ _ (e0.trans e1) rfl
    obtain ⟨p, w, zs, rfl, _, _, _⟩ := hx.cons_out
    exact et_truT (ev_var rfl) ha
  · refine s_ret (v := .int (-tn * s)) (ev_if (b := false) ?_ (fun h => by cases h) (fun _ => ev_mul (ev_neg (ev_var rfl)) (ev_firstSign rfl h2) (.inl (by rcases htn with rfl | rfl <;> decide)))) fun H1 e1 => k _ _ (e0.trans e1) rfl
    have : xs = [] := hx.nil_out
    subst this
    exact et_truT (ev_var rfl) ha
theorem pure_order {K : PySem.W.Frag} {vs : List V} {H : Hp} {Q : VK} {E : XK} (h : sp_order K vs H Q E) : t_order K { nx := fun _ H' => Q .non H', rt := Q } (start ["first", "second", "turn", "left", "right", "sign", "other"] vs) H := by
  obtain ⟨x, y, R, rfl, ⟨t, u, hx, hy, ht, hu, hh, hz1, hz2, rfl⟩, k⟩ := h
  refine q_when (et_test (ev_eqN (t := t) (u := u) (er_var rfl fun H1 e1 => hx.ex e1) (er_var rfl fun H1 e1 => hy.ex e1) (by omega))) (fun hc H1 e1 => ?_) (fun hc H1 e1 => ?_)
  · have := of_decide_eq_true hc
    subst this
    exact s_ret ev_c fun H2 e2 => k _ _ (e1.trans e2) (by rw [cmp_self])
  have hne : t ≠ u := of_decide_eq_false hc
  refine q_asg ev_c fun H2 e2 => ?_
  refine q_while' (WOrder K t u H) t.size ⟨x, y, t, u, 1, none, none, none, none, rfl, e1.trans e2, rfl, hx.ex (e1.trans e2), hy.ex (e1.trans e2), ht, hu, hne, .inl rfl, hh, hz1, hz2, by rw [Int.one_mul]⟩ ?_
  rintro m σ' H' ⟨v1, v2, t1, u1, tn, z3, z4, z5, z6, rfl, e3, rfl, h1, h2, c1, c2, hne1, htn, hh1, hs1, hs2, hcmp⟩
  obtain ⟨a, xs, rfl, ha, hxs⟩ := _root_.id h1.out
  obtain ⟨b, ys, rfl, hb, hys⟩ := _root_.id h2.out
  have lx := hxs.len
  have ly := hys.len
  refine ⟨!xs.isEmpty && !ys.isEmpty, et_and (et_truT (ev_var rfl) ha) (fun _ => et_truT (ev_var rfl) hb), fun hb1 H4 e4 => ?_, fun hb1 H4 e4 => ?_⟩
  · have it1 := items_terms hxs
    have it2 := items_terms hys
    -- the words of the inner loop: the first i terms are the same
    refine q_forZE (i := 3) (j := 4) (pi := 0) (pj := 1) (n := min xs.length ys.length) rfl rfl (ex_t e4 ha) (ex_t e4 hb) rfl (fun i σ H5 => ∃ z3 z4, σ = [some (.ref a), some (.ref b), some (.int tn), z3, z4, z5, z6] ∧ Ex H4 H5 ∧ t1.toL.take i = u1.toL.take i) ⟨z3, z4, rfl, Ex.refl _, rfl⟩ (fun m σ' H' ⟨_, _, _, e, _⟩ => e) ?_ ?_
    · rintro i x' y' σ H5 hi hx' hy' ⟨z3, z4, rfl, e5, hp⟩ H6 e6
      have e46 := e4.trans (e5.trans e6)
      obtain ⟨⟨s, e⟩, g1, g2⟩ := (it1.ex (fun x => (termI x).mono) e46).of_at hx'
      obtain ⟨⟨s', e'⟩, g3, g4⟩ := (it2.ex (fun x => (termI x).mono) e46).of_at hy'
      have m1 := mem_size (List.mem_of_getElem? g1)
      have m2 := mem_size (List.mem_of_getElem? g3)
      have m1' : e.size < t1.size ∧ e.height < t1.height := m1
      have m2' : e'.size < u1.size ∧ e'.height < u1.height := m2
      refine s_when (b := !decide ((s, e) = (s', e'))) (et_test (ev_neTm rfl rfl g2 g4 (by show e.height ≤ 46; omega))) (fun hd H7 e7 => ?_) (fun hd H7 e7 => ?_)
      · have hdne : (s, e) ≠ (s', e') := of_decide_eq_false ((Bool.not_eq_true' _).mp hd)
        obtain ⟨k1, k2⟩ := ord_diff c1 c2 hp g1 g3 hdne
        obtain ⟨q, w, rfl, q1, q2⟩ := g2
        obtain ⟨q', w', rfl, q1', q2'⟩ := g4
        have sgn1 : s = 1 ∨ s = -1 := (can_sign c1 _ (List.mem_of_getElem? g1)).1
        have sgn2 : s' = 1 ∨ s' = -1 := (can_sign c2 _ (List.mem_of_getElem? g3)).1
        unfold tBreak
        dsimp only
        refine q_unpack2 (K := K) (R := fun v _ => v = .ref q) (er_is (ev_var rfl)) fun v H8 e8 hv => ⟨q, .int s, w, hv, ex_t (e7.trans e8) q1, ?_⟩
        refine q_unpack2 (K := K) (R := fun v _ => v = .ref q') (er_is (ev_var rfl)) fun v H9 e9 hv => ⟨q', .int s', w', hv, ex_t (e7.trans (e8.trans e9)) q1', ?_⟩
        refine q_when (b := !decide (V.int s = V.int s')) (et_test (ev_ne (ev_var rfl) (ev_var rfl) rfl)) (fun hss H10 e10 => ?_) (fun hss H10 e10 => ?_)
        · have hss' : s ≠ s' := fun q => by subst q; simp at hss
          have e310 := e3.trans (e46.trans (e7.trans (e8.trans (e9.trans e10))))
          exact s_ret (ev_mul (ev_var rfl) (ev_var rfl) (.inl (by rcases htn with rfl | rfl <;> decide))) fun H11 e11 => k _ _ (e310.trans e11) (by rw [hcmp, k1 hss'])
        · have hss' : s = s' := by simpa using hss
          obtain ⟨k3, k4⟩ := k2 hss'
          subst hss'
          refine s_mulI (a := tn) (b := s) rfl (ev_var rfl) (.inl (by rcases htn with rfl | rfl <;> decide)) fun H11 e11 => ?_
          have e711 := e7.trans (e8.trans (e9.trans (e10.trans e11)))
          refine ⟨e.size, m1'.1, w, w', e, e', tn * s, _, _, _, _, rfl, e3.trans (e46.trans e711), rfl, q2.ex e711, q2'.ex e711, can_mem c1 _ (List.mem_of_getElem? g1), can_mem c2 _ (List.mem_of_getElem? g3), k3, ?_, by omega, by omega, by omega, by rw [hcmp, k4, Int.mul_assoc]⟩
          rcases htn with rfl | rfl <;> rcases sgn1 with rfl | rfl <;> decide
      · have hdeq : (s, e) = (s', e') := of_decide_eq_true (by rw [Bool.not_eq_false'] at hd; exact hd)
        refine ⟨_, _, rfl, e5.trans (e6.trans e7), ?_⟩
        rw [take_snoc g1, take_snoc g3, hp, hdeq]
    · rintro σ H5 ⟨z3, z4, rfl, e5, hp⟩
      have hend := ord_end c1 c2 hp hne1 (by rw [lx, ly])
      have e45 := e4.trans e5
      refine er_fromT (n := ys.length) (ev_var rfl) (ex_t e45 ha) (ev_lenT (ev_var rfl) (ex_t e45 hb)) H5 (Ex.refl _) _ fun v H5' e5' ⟨q, hv, g2⟩ => ?_
      refine er_fromT (n := xs.length) (ev_var rfl) (ex_t (e45.trans e5') hb) (ev_lenT (ev_var rfl) (ex_t (e45.trans e5') ha)) H5' (Ex.refl _) _ fun v' H6 e6 ⟨q', hv', g3⟩ => ?_
      subst hv hv'
      refine ⟨_, _, rfl, ?_⟩
      · have g2 := ex_t e6 g2
        have e46 := e45.trans (e5'.trans e6)
        have n1 : NumV K H6 (.ref q) (ofL (t1.toL.drop u1.toL.length)) := by
          refine NumV.mk g2 (terms_items ?_)
          rw [← ly]
          exact ((it1.ex (fun x => (termI x).mono) e46).drop ys.length)
        have n2 : NumV K H6 (.ref q') (ofL (u1.toL.drop t1.toL.length)) := by
          refine NumV.mk g3 (terms_items ?_)
          rw [← lx]
          exact ((it2.ex (fun x => (termI x).mono) e46).drop xs.length)
        refine ord_tail (e3.trans e46) k n1 n2 htn ?_
        rcases hend with ⟨s, e, r, d1, d2, hc⟩ | ⟨s, e, r, d1, d2, hc⟩
        · refine .inl ⟨s, e, ofL r, by rw [d1]; rfl, (can_sign c1 (s, e) (List.mem_of_mem_drop (by rw [d1]; exact List.mem_cons_self))).1, by rw [hcmp, hc]⟩
        · refine .inr ⟨by rw [d2]; rfl, s, e, ofL r, by rw [d1]; rfl, (can_sign c2 (s, e) (List.mem_of_mem_drop (by rw [d1]; exact List.mem_cons_self))).1, by rw [hcmp, hc, Int.mul_neg, Int.neg_mul]⟩
  · refine ord_tail (e3.trans e4) k (h1.ex e4) (h2.ex e4) htn ?_
    rw [Bool.and_eq_false_iff] at hb1
    cases t1 with
    | nil =>
      cases u1 with
      | nil => exact absurd rfl hne1
      | cons s e r =>
        refine .inr ⟨rfl, s, e, r, rfl, c2.1.1, ?_⟩
        have p := can_pos c2
        have : cmpI T.nil.val (T.cons s e r).val = -s := by
          show cmpI 0 _ = _
          generalize (T.cons s e r).val = x at *
          rcases (show s = 1 ∨ s = -1 from c2.1.1) with rfl | rfl
          · exact cmp_lt (by omega)
          · exact cmp_gt (by omega)
        rw [hcmp, this, Int.mul_neg, Int.neg_mul]
    | cons s e r =>
      refine .inl ⟨s, e, r, rfl, c1.1.1, ?_⟩
      obtain ⟨_, _, _, hxe, _⟩ := hxs.cons_out
      have hu0 : u1 = .nil := by
        rcases hb1 with q | q
        · rw [hxe] at q; cases q
        · cases u1 with
          | nil => rfl
          | cons s' e' r' =>
            obtain ⟨_, _, _, hye, _⟩ := hys.cons_out
            rw [hye] at q; cases q
      subst hu0
      have p := can_pos c1
      have : cmpI (T.cons s e r).val T.nil.val = s := by
        show cmpI _ 0 = _
        generalize (T.cons s e r).val = x at *
        rcases (show s = 1 ∨ s = -1 from c1.1.1) with rfl | rfl
        · exact cmp_gt (by omega)
        · exact cmp_lt (by omega)
      rw [hcmp, this]
/-! ### compare -/
def pCompare (K : PySem.W.Frag) : V → V → Hp → VP → Prop := fun x y H R => ∃ (t u : T), NumV K H x t ∧ NumV K H y u ∧ t.can ∧ u.can ∧ t.height ≤ 47 ∧ t.size < 90000 ∧ u.size < 90000 ∧ R = fun v _ => v = .int (cmpI t.val u.val)
def sp_compare (K : PySem.W.Frag) : Sp := spF2 (pCompare K)
def t_compare (K : PySem.W.Frag) : TS := (tRet (tCall (sp_order K) [] E0 (tCons (tVar 0) (tCons (tVar 1) tNil))))
theorem pure_compare {K : PySem.W.Frag} {vs : List V} {H : Hp} {Q : VK} {E : XK} (h : sp_compare K vs H Q E) : t_compare K { nx := fun _ H' => Q .non H', rt := Q } (start ["first", "second"] vs) H := by
  obtain ⟨x, y, R, rfl, ⟨t, u, hx, hy, ht, hu, hh, hz1, hz2, rfl⟩, k⟩ := h
  exact s_retR (er_call2 (R1 := fun v H => NumV K H v t) (R2 := fun v H => NumV K H v u) (er_var rfl fun H1 e1 => hx.ex e1) numT.mono (er_var rfl fun H1 e1 => hy.ex e1) numT.mono fun v w H1 e1 g1 g2 => ⟨t, u, g1, g2, ht, hu, hh, hz1, hz2, rfl⟩) fun v H1 e1 h => k v H1 e1 h
end Sk

set_option Elab.async false
set_option linter.all false
set_option maxRecDepth 100000
set_option maxHeartbeats 2000000
namespace Sk
open PySem L2 Evl
/-! ### powers of two by a modulus -/
/-- n different remainders, the next one is that of 2 ** l -/
def IsRow (m n l : Nat) : Prop := l < n ∧ 2 ^ n % m = 2 ^ l % m ∧ ∀ i j, i < j → j < n → 2 ^ i % m ≠ 2 ^ j % m
theorem distinct_le {m n : Nat} (hm : 0 < m) (h : ∀ i j, i < j → j < n → 2 ^ i % m ≠ 2 ^ j % m) : n ≤ m := by
  have nd : ((List.range n).map fun i => 2 ^ i % m).Nodup := by
    rw [List.nodup_iff_pairwise_ne, List.pairwise_map]
    refine List.Pairwise.imp_of_mem (R := fun a b => a < b) (fun {a b} ha hb hab => h a b hab (List.mem_range.mp hb)) List.pairwise_lt_range
  have := nd.length_le_of_subset (l₂ := List.range m) (fun x hx => by
    obtain ⟨i, _, rfl⟩ := List.mem_map.mp hx
    exact List.mem_range.mpr (Nat.mod_lt _ hm))
  simpa using this
theorem IsRow.le {m n l : Nat} (hm : 0 < m) (h : IsRow m n l) : n ≤ m := distinct_le hm h.2.2
theorem IsRow.uniq {m n l n' l' : Nat} (h : IsRow m n l) (h' : IsRow m n' l') : n = n' ∧ l = l' := by
  have hn : n = n' := by
    rcases Nat.lt_trichotomy n n' with q | q | q
    · exact absurd h.2.1.symm (h'.2.2 l n h.1 q)
    · exact q
    · exact absurd h'.2.1.symm (h.2.2 l' n' h'.1 q)
  subst hn
  refine ⟨rfl, ?_⟩
  have e : 2 ^ l % m = 2 ^ l' % m := h.2.1.symm.trans h'.2.1
  rcases Nat.lt_trichotomy l l' with q | q | q
  · exact absurd e (h.2.2 l l' q h'.1)
  · exact q
  · exact absurd e.symm (h.2.2 l' l q h.1)
theorem pow_mod_succ (i m : Nat) : 2 * (2 ^ i % m) % m = 2 ^ (i + 1) % m := by
  rw [Nat.pow_succ, Nat.mul_comm (2 ^ i) 2, Nat.mul_mod, Nat.mod_mod, ← Nat.mul_mod]
/-- the cycle's length is below the modulus -/
theorem IsRow.short {m n l : Nat} (hm : 1 < m) (h : IsRow m n l) : n - l < m := by
  have hle := h.le (by omega)
  rcases Nat.eq_zero_or_pos l with hl | hl
  · subst hl
    -- no remainder is 0: from 0 no way leads to 1
    have h1 : 2 ^ 0 % m = 1 := by rw [Nat.pow_zero]; exact Nat.mod_eq_of_lt hm
    have nz : ∀ i, i ≤ n → 2 ^ i % m ≠ 0 := by
      intro i hi hz
      have : ∀ k, 2 ^ (i + k) % m = 0 := fun k => by rw [Nat.pow_add, Nat.mul_mod, hz, Nat.zero_mul, Nat.zero_mod]
      have h2 := this (n - i)
      rw [show i + (n - i) = n by omega, h.2.1, h1] at h2
      omega
    have nd : ((List.range n).map fun i => 2 ^ i % m).Nodup := by
      rw [List.nodup_iff_pairwise_ne, List.pairwise_map]
      refine List.Pairwise.imp_of_mem (R := fun a b => a < b) (fun {a b} ha hb hab => h.2.2 a b hab (List.mem_range.mp hb)) List.pairwise_lt_range
    have := nd.length_le_of_subset (l₂ := (List.range (m - 1)).map (· + 1)) (fun x hx => by
      obtain ⟨i, hi, rfl⟩ := List.mem_map.mp hx
      have h3 := nz i (Nat.le_of_lt (List.mem_range.mp hi))
      have h4 := Nat.mod_lt (2 ^ i) (show 0 < m by omega)
      exact List.mem_map.mpr ⟨2 ^ i % m - 1, List.mem_range.mpr (by omega), by omega⟩)
    rw [List.length_map, List.length_map, List.length_range, List.length_range] at this
    omega
  · omega
/-- behind the lead the remainders come again -/
theorem IsRow.again {m n l : Nat} (h : IsRow m n l) (k : Nat) : ∀ i, l ≤ i → 2 ^ (i + k * (n - l)) % m = 2 ^ i % m := by
  have one : ∀ i, l ≤ i → 2 ^ (i + (n - l)) % m = 2 ^ i % m := fun i hi => by
    have e1 : i + (n - l) = n + (i - l) := by have := h.1; omega
    have e2 : i = l + (i - l) := by omega
    rw [e1, Nat.pow_add, Nat.mul_mod, h.2.1, ← Nat.mul_mod, ← Nat.pow_add, ← e2]
  induction k with
  | zero => intro i _; rw [Nat.zero_mul, Nat.add_zero]
  | succ k ih =>
    intro i hi
    rw [Nat.succ_mul, ← Nat.add_assoc, one _ (by omega), ih i hi]
theorem IsRow.turn {m n l : Nat} (h : IsRow m n l) {e : Nat} (he : l ≤ e) : 2 ^ e % m = 2 ^ (l + (e - l) % (n - l)) % m := by
  have h1 := h.again ((e - l) / (n - l)) (l + (e - l) % (n - l)) (Nat.le_add_right _ _)
  rw [← h1]
  have h2 := Nat.mod_add_div (e - l) (n - l)
  rw [Nat.mul_comm] at h2
  congr 2
  omega
def pows (m n : Nat) : List Int := (List.range n).map fun i => ((2 ^ i % m : Nat) : Int)
section
variable {K : PySem.W.Frag} {σ : L2.St} {H : Hp} {ty td tx : TE} {D : Ends} {tz : TS}
theorem ev_din {a : Addr} {kvs : List (Key × V)} {k : Int} (h1 : Ev ty σ H (.int k)) (h2 : Ev td σ H (.ref a)) (hd : H a = some (.dK kvs)) : Ev (tDIn ty td) σ H (.bl (valV kvs (Sum.inl k)).isSome) := fun H1 e Q q =>
  h1 H1 e _ fun H2 e2 => h2 H2 (e.trans e2) _ fun H3 e3 => ⟨a, _, rfl, DGet.k (k := Sum.inl k) (((e.trans e2).trans e3) a _ hd), q H3 (e2.trans e3)⟩
theorem ev_dnotin {a : Addr} {kvs : List (Key × V)} {k : Int} (h1 : Ev ty σ H (.int k)) (h2 : Ev td σ H (.ref a)) (hd : H a = some (.dK kvs)) : Ev (tDNotIn ty td) σ H (.bl (!(valV kvs (Sum.inl k)).isSome)) := fun H1 e Q q =>
  h1 H1 e _ fun H2 e2 => h2 H2 (e.trans e2) _ fun H3 e3 => ⟨a, _, rfl, DGet.k (k := Sum.inl k) (((e.trans e2).trans e3) a _ hd), q H3 (e2.trans e3)⟩
theorem ev_dget {a : Addr} {kvs : List (Key × V)} {k : Int} {v : V} (h2 : Ev td σ H (.ref a)) (h1 : Ev ty σ H (.int k)) (hd : H a = some (.dK kvs)) (hv : valV kvs (Sum.inl k) = some v) : Ev (tDGet td ty) σ H v := fun H1 e Q q =>
  h2 H1 e _ fun H2 e2 => h1 H2 (e.trans e2) _ fun H3 e3 => ⟨a, v, rfl, by rw [← hv]; exact DGet.k (k := Sum.inl k) (((e.trans e2).trans e3) a _ hd), q H3 (e2.trans e3)⟩
/-- d[k] = v -/
theorem q_dput {a : Addr} {kvs : List (Key × V)} {k : Int} {v : V} (hd : H a = some (.dK kvs)) (hv : Ev tx σ H v) (ho : Ev td σ H (.ref a)) (hi : Ev ty σ H (.int k)) (hz : kvs.length < 100000) (n : ∀ H1, Ex H H1 → tz D σ (upd H1 a (.dK (putK kvs (Sum.inl k) v)))) : tSeq (sDPut td ty tx) tz D σ H :=
  hv H (Ex.refl H) _ fun H1 e1 => ho H1 e1 _ fun H2 e2 => hi H2 (e1.trans e2) _ fun H3 e3 => ⟨a, _, rfl, DPut.k (k := Sum.inl k) (((e1.trans e2).trans e3) a _ hd) (sz_lt hz), n H3 ((e1.trans e2).trans e3)⟩
theorem s_asgD {i : Nat} (k : ∀ d H1, H d = none → Ex H H1 → H1 d = some (.dK []) → D.nx (σ.set i (some (.ref d))) H1) : tAsg tDNewK (gName i) D σ H := fun d hd => k d _ hd (Ex.new hd) upd_same
theorem q_asgD {i : Nat} (k : ∀ d H1, H d = none → Ex H H1 → H1 d = some (.dK []) → tz D (σ.set i (some (.ref d))) H1) : tSeq (tAsg tDNewK (gName i)) tz D σ H := s_asgD (D := { D with nx := tz D }) k
theorem TEx.putD {d : Addr} {kvs kvs' : List (Key × V)} (h : H d = some (.dK kvs)) : TEx H (upd H d (.dK kvs')) := fun a o e c => by
  by_cases hb : a = d
  · subst hb; rw [h] at e; cases e; exact c.elim
  · rw [upd_ne hb]; exact e
end
/-- what the dict of places says behind i powers -/
structure Plc (m i : Nat) (kvs : List (Key × V)) : Prop where
  len : kvs.length = i
  has : ∀ j, j < i → valV kvs (Sum.inl (((2 ^ j % m : Nat) : Int))) = some (.int (j : Int))
  only : ∀ k v, valV kvs (Sum.inl k) = some v → ∃ j, j < i ∧ k = ((2 ^ j % m : Nat) : Int)
  dist : ∀ a b, a < b → b < i → 2 ^ a % m ≠ 2 ^ b % m
theorem Plc.zero (m : Nat) : Plc m 0 [] := ⟨rfl, fun j h => absurd h (Nat.not_lt_zero _), fun k v h => (by cases h), fun a b _ h => absurd h (Nat.not_lt_zero _)⟩
theorem Plc.next {m i : Nat} {kvs : List (Key × V)} (h : Plc m i kvs) (hn : valV kvs (Sum.inl (((2 ^ i % m : Nat) : Int))) = none) : Plc m (i + 1) (putK kvs (Sum.inl (((2 ^ i % m : Nat) : Int))) (.int (i : Int))) := by
  have hd : ∀ a, a < i → 2 ^ a % m ≠ 2 ^ i % m := fun a ha e => by
    have := h.has a ha
    rw [e, hn] at this
    cases this
  refine ⟨by rw [putK_new _ hn, List.length_append, h.len]; rfl, fun j hj => ?_, fun k v hk => ?_, fun a b hab hb => ?_⟩
  · rw [valV_put]
    by_cases e : j = i
    · subst e; rw [if_pos rfl]
    · have hj' : j < i := by omega
      rw [if_neg (fun q => hd j hj' (by have := Sum.inl.inj q; exact_mod_cast this))]
      exact h.has j hj'
  · rw [valV_put] at hk
    split at hk
    · rename_i q
      exact ⟨i, Nat.lt_succ_self _, Sum.inl.inj q⟩
    · obtain ⟨j, h1, h2⟩ := h.only k v hk
      exact ⟨j, Nat.lt_succ_of_lt h1, h2⟩
  · rcases Nat.lt_or_eq_of_le (Nat.le_of_lt_succ hb) with q | q
    · exact h.dist a b hab q
    · subst q; exact hd a hab
theorem Plc.done {m i : Nat} {kvs : List (Key × V)} (h : Plc m i kvs) (hs : (valV kvs (Sum.inl (((2 ^ i % m : Nat) : Int)))).isSome = true) : ∃ l, IsRow m i l ∧ valV kvs (Sum.inl (((2 ^ i % m : Nat) : Int))) = some (.int (l : Int)) := by
  obtain ⟨v, hv⟩ := Option.isSome_iff_exists.mp hs
  obtain ⟨l, h1, h2⟩ := h.only _ v hv
  have h3 : 2 ^ i % m = 2 ^ l % m := by exact_mod_cast h2
  exact ⟨l, ⟨h1, h3, h.dist⟩, by rw [h3]; exact h.has l h1⟩
theorem Plc.le {m i : Nat} {kvs : List (Key × V)} (hm : 0 < m) (h : Plc m i kvs) : i ≤ m := distinct_le hm h.dist
/-! ### check_modulus, power_row -/
def pCheckMod (CN : Addr) : V → Hp → VP → WP → Prop := fun x H R W => ∃ m : Int, x = .int m ∧ (1 ≤ m ∧ m ≤ 10000 → ∀ H', R .non H') ∧ (¬ (1 ≤ m ∧ m ≤ 10000) → W CN)
def sp_check_modulus (K : PySem.W.Frag) (CN : Addr) : Sp := spX1 K (pCheckMod CN)
def t_check_modulus (K : PySem.W.Frag) (a_NotAllowed : Addr) (E : XK) : TS := (tIfS (tOr (tTest (tOp xLt (tVar 0) (tC (.int 1)))) (tTest (tOp xGt (tVar 0) (tC (.int 10000))))) (tRaise K E a_NotAllowed) tNext)
theorem pure_check_modulus {K : PySem.W.Frag} {CN : Addr} {vs : List V} {H : Hp} {Q : VK} {E : XK} (h : sp_check_modulus K CN vs H Q E) : t_check_modulus K CN E { nx := fun _ H' => Q .non H', rt := Q } (start ["m"] vs) H := by
  obtain ⟨x, R, W, rfl, ⟨m, rfl, h1, h2⟩, k, kE⟩ := h
  refine s_when (b := decide (m < 1) || decide (10000 < m)) (et_or (et_test (ev_lt (ev_var rfl) ev_c)) fun _ => et_test (ev_gt (ev_var rfl) ev_c)) (fun hc H1 e1 => ?_) (fun hc H1 e1 => ?_)
  · refine (fun Hz ez => kE CN Hz (e1.trans ez) (h2 ?_))
    simp at hc
    omega
  · refine k _ H1 e1 (h1 ?_ _)
    simp at hc
    omega
/-- a power row in the heap: the list of the powers -/
def PRow (H0 : Hp) (m : Nat) : VP := fun v H' => ∃ q p n l, v = .ref q ∧ IsRow m n l ∧ H' q = some (.tup [.ref p, .int (l : Int)]) ∧ H' p = some (.lst ((pows m n).map V.int)) ∧ H0 p = none
def pPowerRow : V → Hp → VP → Prop := fun x H R => ∃ m : Nat, x = .int (m : Int) ∧ 1 ≤ m ∧ m ≤ 10000 ∧
  ∀ v H', PRow H m v H' → R v H'
def sp_power_row (K : PySem.W.Frag) : Sp := spF1 pPowerRow
def t_power_row (K : PySem.W.Frag) : TS := (tSeq (tAsg (tLst tNil) (gName 1))
    (tSeq (tAsg tDNewK (gName 2))
    (tSeq (tAsg (tOp xMod (tC (.int 1)) (tVar 0)) (gName 3))
    (tSeq (tWhile (tB (tDNotIn (tVar 3) (tVar 2))) (tSeq (sDPut (tVar 2) (tVar 3) (tCB (rLenS K) (tCons (tVar 1) tNil)))
    (tSeq (tDrop (tBM K "list" rAppend (tVar 1) (tCons (tVar 3) tNil)))
    (tAsg (tOp xMod (tOp xMul (tC (.int 2)) (tVar 3)) (tVar 0)) (gName 3)))))
    (tRet (tTup (tCons (tVar 1) (tCons (tDGet (tVar 2) (tVar 3)) tNil))))))))
def WRow (m : Nat) (l d : Addr) (H0 : Hp) (w : Nat) (σ : L2.St) (H : Hp) : Prop := ∃ (i : Nat) (kvs : List (Key × V)),
  σ = [some (.int (m : Int)), some (.ref l), some (.ref d), some (.int ((2 ^ i % m : Nat) : Int))] ∧ w = m + 1 - i ∧ H0 l = none ∧ H0 d = none ∧ l ≠ d ∧ Ex H0 H ∧ H l = some (.lst ((pows m i).map V.int)) ∧ H d = some (.dK kvs) ∧ Plc m i kvs
theorem pows_succ (m i : Nat) : pows m (i + 1) = pows m i ++ [((2 ^ i % m : Nat) : Int)] := by
  unfold pows
  rw [List.range_succ, List.map_append] <;> rfl
theorem pows_len (m n : Nat) : (pows m n).length = n := by unfold pows; rw [List.length_map, List.length_range]
theorem pure_power_row {K : PySem.W.Frag} {vs : List V} {H : Hp} {Q : VK} {E : XK} (h : sp_power_row K vs H Q E) : t_power_row K { nx := fun _ H' => Q .non H', rt := Q } (start ["m", "powers", "places", "power"] vs) H := by
  obtain ⟨x, R, rfl, ⟨m, rfl, hm1, hm2, hR⟩, k⟩ := h
  refine q_asgL (el_lst ea_nil (by decide)) fun l H1 hl e1 h1 => ?_
  refine q_asgD fun d H2 hd e2 h2 => ?_
  have hld : l ≠ d := fun e => by rw [← e, h1] at hd; cases hd
  refine q_asg (ev_mod ev_c (ev_var rfl) (by omega)) fun H3 e3 => ?_
  have hp1 : (1 : Int) % (m : Int) = ((2 ^ 0 % m : Nat) : Int) := by rw [Nat.pow_zero]; norm_cast
  rw [hp1]
  refine q_while' (WRow m l d H) (m + 1 - 0) ⟨0, [], rfl, rfl, hl, fresh_back e1 hd, hld, (e1.trans e2).trans e3, (e2.trans e3) l _ h1, e3 d _ h2, Plc.zero m⟩ ?_
  rintro w σ' H' ⟨i, kvs, rfl, rfl, hl0, hd0, hld, e4, h4, h5, hP⟩
  have hi := hP.le (by omega)
  refine ⟨_, et_B (ev_dnotin (ev_var rfl) (ev_var rfl) h5), fun hb H5 e5 => ?_, fun hb H5 e5 => ?_⟩
  · have hn : valV kvs (Sum.inl (((2 ^ i % m : Nat) : Int))) = none := by
      cases hq : valV kvs (Sum.inl (((2 ^ i % m : Nat) : Int))) with
      | none => rfl
      | some v => rw [hq] at hb; cases hb
    have hP' := hP.next hn
    have hi' := hP'.le (by omega)
    refine q_dput (e5 d _ h5) (v := .int (i : Int)) (ev_is (ev_lenL (ev_var rfl) (sq_of (e5 l _ h4))) (by rw [List.length_map, pows_len])) (ev_var rfl) (ev_var rfl) (by rw [hP.len]; omega) fun H6 e6 => ?_
    have h46 : (upd H6 d (.dK (putK kvs (Sum.inl (((2 ^ i % m : Nat) : Int))) (.int (i : Int))))) l = some (.lst ((pows m i).map V.int)) := by rw [upd_ne hld]; exact (e5.trans e6) l _ h4
    refine q_app h46 (ev_var rfl) (ev_var rfl) (by rw [List.length_map, pows_len]; omega) fun H7 e7 => ?_
    have hdl : d ≠ l := fun e => hld e.symm
    refine s_asg (ev_mod (ev_mul ev_c (ev_var rfl) (.inl (by decide))) (ev_var rfl) (by omega)) fun H8 e8 => ⟨m + 1 - (i + 1), by omega, i + 1, _, ?_, rfl, hl0, hd0, hld, ?_, ?_, e8 d _ (by rw [upd_ne hdl]; exact e7 d _ upd_same), hP'⟩
    · have : (2 : Int) * ((2 ^ i % m : Nat) : Int) % (m : Int) = ((2 ^ (i + 1) % m : Nat) : Int) := by rw [← pow_mod_succ]; norm_cast
      rw [this] <;> rfl
    · exact (Ex.mut ((Ex.mut (e4.trans (e5.trans e6)) hd0).trans e7) hl0).trans e8
    · rw [pows_succ, List.map_append]
      exact e8 l _ upd_same
  · have hs : (valV kvs (Sum.inl (((2 ^ i % m : Nat) : Int)))).isSome = true := by
      cases hq : valV kvs (Sum.inl (((2 ^ i % m : Nat) : Int))) with
      | none => rw [hq] at hb; cases hb
      | some v => rfl
    obtain ⟨l', hr, hv⟩ := hP.done hs
    refine s_retU (eu_tup (ea_cons (ev_var rfl) (ea_cons (ev_dget (ev_var rfl) (ev_var rfl) (e5 d _ h5) hv) ea_nil)) (by show 2 ≤ 100000; omega)) fun q H6 _ e6 h6 => k _ _ (e4.trans (e5.trans e6)) (hR _ _ ⟨q, l, i, l', rfl, hr, h6, (e5.trans e6) l _ h4, hl0⟩)
end Sk

set_option Elab.async false
set_option linter.all false
set_option maxRecDepth 100000
set_option maxHeartbeats 2000000
namespace Sk
/-! ### how many terms an integer has -/
theorem naf_len_p (k : Nat) : ∀ (n : Int) (p q : Nat), n.natAbs ≤ k → (naf n p).length = (naf n q).length := by
  induction k with
  | zero =>
    intro n p q h
    have : n = 0 := by omega
    subst this; rw [naf_zero, naf_zero]
  | succ k ih =>
    intro n p q h
    by_cases h0 : n = 0
    · subst h0; rw [naf_zero, naf_zero]
    rcases Int.emod_two_eq n with e | e
    · rw [naf_even e, naf_even e]; exact ih _ _ _ (by omega)
    · rw [naf_odd e, naf_odd e, List.length_cons, List.length_cons]
      by_cases hz : (n - (2 - n % 4)) / 2 = 0
      · rw [hz, naf_zero, naf_zero]
      · rw [ih _ (p + 1) (q + 1) (by omega)]
def wt (n : Int) : Nat := (naf n 0).length
theorem wt_zero : wt 0 = 0 := by unfold wt; rw [naf_zero] <;> rfl
theorem wt_even {n : Int} (h : n % 2 = 0) : wt n = wt (n / 2) := by
  unfold wt
  rw [naf_even h]
  exact naf_len_p _ _ _ _ (Nat.le_refl _)
theorem wt_dbl (n : Int) : wt (2 * n) = wt n := by
  rw [wt_even (by omega), show 2 * n / 2 = n by omega]
theorem wt_one {n : Int} (h : n % 4 = 1) : wt n = wt ((n - 1) / 4) + 1 := by
  unfold wt
  rw [naf_odd (by omega), List.length_cons, show (n - (2 - n % 4)) / 2 = 2 * ((n - 1) / 4) by omega]
  rw [naf_len_p _ (2 * ((n - 1) / 4)) (0 + 1) 0 (Nat.le_refl _)]
  exact congrArg (· + 1) (wt_dbl _)
theorem wt_three {n : Int} (h : n % 4 = 3) : wt n = wt ((n + 1) / 4) + 1 := by
  unfold wt
  rw [naf_odd (by omega), List.length_cons, show (n - (2 - n % 4)) / 2 = 2 * ((n + 1) / 4) by omega]
  rw [naf_len_p _ (2 * ((n + 1) / 4)) (0 + 1) 0 (Nat.le_refl _)]
  exact congrArg (· + 1) (wt_dbl _)
/-- one more or less, one term more at most; beside an odd number no more than it has -/
theorem wt_near : ∀ (k : Nat) (n : Int), n.natAbs ≤ k → (wt (n + 1) ≤ wt n + 1 ∧ wt (n - 1) ≤ wt n + 1) ∧ (n % 2 = 1 → wt (n + 1) ≤ wt n ∧ wt (n - 1) ≤ wt n)
  | 0, n, h => by
    have : n = 0 := by omega
    subst this
    have h1 : wt 1 = 1 := by rw [wt_one (by decide), show ((1 : Int) - 1) / 4 = 0 by decide, wt_zero]
    have h2 : wt (-1) = 1 := by rw [wt_three (by decide), show ((-1 : Int) + 1) / 4 = 0 by decide, wt_zero]
    exact ⟨⟨by show wt 1 ≤ _; omega, by show wt (-1) ≤ _; omega⟩, fun q => absurd q (by decide)⟩
  | k + 1, n, h => by
    by_cases h0 : n = 0
    · subst h0
      exact ⟨(wt_near 0 0 (Nat.le_refl _)).1, fun q => absurd q (by decide)⟩
    have key : n % 4 = 0 ∨ n % 4 = 1 ∨ n % 4 = 2 ∨ n % 4 = 3 := by omega
    rcases key with q | q | q | q
    · have a1 : wt (n + 1) = wt (n / 4) + 1 := by rw [wt_one (by omega), show (n + 1 - 1) / 4 = n / 4 by omega]
      have a2 : wt (n - 1) = wt (n / 4) + 1 := by rw [wt_three (by omega), show (n - 1 + 1) / 4 = n / 4 by omega]
      have a3 : wt n = wt (n / 4) := by rw [wt_even (by omega), wt_even (by omega), show n / 2 / 2 = n / 4 by omega]
      exact ⟨⟨by omega, by omega⟩, fun z => absurd z (by omega)⟩
    · -- n = 4 j + 1
      have a0 : wt n = wt ((n - 1) / 4) + 1 := wt_one q
      have a1 : wt (n - 1) = wt ((n - 1) / 4) := by rw [wt_even (by omega), wt_even (by omega), show (n - 1) / 2 / 2 = (n - 1) / 4 by omega]
      have a2 : wt (n + 1) = wt (2 * ((n - 1) / 4) + 1) := by rw [wt_even (by omega), show (n + 1) / 2 = 2 * ((n - 1) / 4) + 1 by omega]
      have a3 : wt (2 * ((n - 1) / 4) + 1) ≤ wt (2 * ((n - 1) / 4)) + 1 := by
        by_cases hz : (n - 1) / 4 = 0
        · rw [hz]; exact (wt_near 0 0 (Nat.le_refl _)).1.1
        · exact (wt_near k _ (by omega)).1.1
      rw [wt_dbl] at a3
      exact ⟨⟨by omega, by omega⟩, fun _ => ⟨by omega, by omega⟩⟩
    · -- n = 4 j + 2
      have a0 : wt n = wt (n / 2) := wt_even (by omega)
      have ih := (wt_near k (n / 2) (by omega)).2 (by omega)
      have a1 : wt (n + 1) = wt ((n + 2) / 4) + 1 := by rw [wt_three (by omega), show (n + 1 + 1) / 4 = (n + 2) / 4 by omega]
      have a2 : wt (n - 1) = wt ((n - 2) / 4) + 1 := by rw [wt_one (by omega), show (n - 1 - 1) / 4 = (n - 2) / 4 by omega]
      have b1 : wt (n / 2 + 1) = wt ((n + 2) / 4) := by rw [wt_even (by omega), show (n / 2 + 1) / 2 = (n + 2) / 4 by omega]
      have b2 : wt (n / 2 - 1) = wt ((n - 2) / 4) := by rw [wt_even (by omega), show (n / 2 - 1) / 2 = (n - 2) / 4 by omega]
      exact ⟨⟨by omega, by omega⟩, fun z => absurd z (by omega)⟩
    · have a0 : wt n = wt ((n + 1) / 4) + 1 := wt_three q
      have a1 : wt (n + 1) = wt ((n + 1) / 4) := by rw [wt_even (by omega), wt_even (by omega), show (n + 1) / 2 / 2 = (n + 1) / 4 by omega]
      have a2 : wt (n - 1) = wt (2 * ((n + 1) / 4) - 1) := by rw [wt_even (by omega), show (n - 1) / 2 = 2 * ((n + 1) / 4) - 1 by omega]
      have a3 : wt (2 * ((n + 1) / 4) - 1) ≤ wt (2 * ((n + 1) / 4)) + 1 := by
        by_cases hz : (n + 1) / 4 = 0
        · rw [hz]; exact (wt_near 0 0 (Nat.le_refl _)).1.2
        · exact (wt_near k _ (by omega)).1.2
      rw [wt_dbl] at a3
      exact ⟨⟨by omega, by omega⟩, fun _ => ⟨by omega, by omega⟩⟩
theorem wt_succ (n : Int) : wt (n + 1) ≤ wt n + 1 := (wt_near _ n (Nat.le_refl _)).1.1
theorem wt_pred (n : Int) : wt (n - 1) ≤ wt n + 1 := (wt_near _ n (Nat.le_refl _)).1.2
/-- a power of two more or less -/
theorem wt_pow : ∀ (p : Nat) (n s : Int), (s = 1 ∨ s = -1) → wt (n + s * 2 ^ p) ≤ wt n + 1
  | 0, n, s, hs => by
    rw [Int.pow_zero, Int.mul_one]
    rcases hs with rfl | rfl
    · exact wt_succ n
    · exact wt_pred n
  | p + 1, n, s, hs => by
    have e : s * 2 ^ (p + 1) = 2 * (s * 2 ^ p) := by rw [Int.pow_succ, ← Int.mul_assoc, Int.mul_comm]
    rw [e]
    rcases Int.emod_two_eq n with q | q
    · rw [wt_even (n := n) q, show n + 2 * (s * 2 ^ p) = 2 * (n / 2 + s * 2 ^ p) by omega, wt_dbl]
      exact wt_pow p _ s hs
    · cases p with
      | zero =>
        rw [Int.pow_zero, Int.mul_one]
        have h4 : n % 4 = 1 ∨ n % 4 = 3 := by omega
        rcases hs with rfl | rfl <;> rcases h4 with h4 | h4
        · have a0 := wt_one h4
          have a1 : wt (n + 2 * 1) = wt ((n - 1) / 4 + 1) + 1 := by rw [wt_three (by omega), show (n + 2 * 1 + 1) / 4 = (n - 1) / 4 + 1 by omega]
          have := wt_succ ((n - 1) / 4)
          omega
        · have a0 := wt_three h4
          have a1 : wt (n + 2 * 1) = wt ((n + 1) / 4) + 1 := by rw [wt_one (by omega), show (n + 2 * 1 - 1) / 4 = (n + 1) / 4 by omega]
          omega
        · have a0 := wt_one h4
          have a1 : wt (n + 2 * -1) = wt ((n - 1) / 4) + 1 := by rw [wt_three (by omega), show (n + 2 * -1 + 1) / 4 = (n - 1) / 4 by omega]
          omega
        · have a0 := wt_three h4
          have a1 : wt (n + 2 * -1) = wt ((n + 1) / 4 - 1) + 1 := by rw [wt_one (by omega), show (n + 2 * -1 - 1) / 4 = (n + 1) / 4 - 1 by omega]
          have := wt_pred ((n + 1) / 4)
          omega
      | succ p =>
        have e2 : 2 * (s * 2 ^ (p + 1)) = 4 * (s * 2 ^ p) := by
          have h3 : s * (2 ^ p * 2) = (s * 2 ^ p) * 2 := (Int.mul_assoc _ _ _).symm
          rw [Int.pow_succ, h3]; omega
        rw [e2]
        have h4 : n % 4 = 1 ∨ n % 4 = 3 := by omega
        rcases h4 with h4 | h4
        · rw [wt_one (n := n) h4, wt_one (n := n + _) (by omega), show (n + 4 * (s * 2 ^ p) - 1) / 4 = (n - 1) / 4 + s * 2 ^ p by omega]
          have := wt_pow p ((n - 1) / 4) s hs
          omega
        · rw [wt_three (n := n) h4, wt_three (n := n + _) (by omega), show (n + 4 * (s * 2 ^ p) + 1) / 4 = (n + 1) / 4 + s * 2 ^ p by omega]
          have := wt_pow p ((n + 1) / 4) s hs
          omega
/-! ### the sizes of small integers, by reckoning -/
def placesF : Nat → Nat → Nat → List Nat
  | 0, _, _ => []
  | f + 1, n, p => if n = 0 then [] else if n % 4 = 1 then p :: placesF f ((n - 1) / 2) (p + 1) else if n % 4 = 3 then p :: placesF f ((n + 1) / 2) (p + 1) else placesF f (n / 2) (p + 1)
theorem placesF_eq : ∀ (f n p : Nat), n ≤ 2 ^ f → placesF (f + 1) n p = (naf (n : Int) p).map (·.2)
  | 0, n, p, h => by
    have h' : n = 0 ∨ n = 1 := by simp at h; omega
    rcases h' with rfl | rfl
    · rw [show ((0 : Nat) : Int) = 0 from rfl, naf_zero] <;> rfl
    · rw [show ((1 : Nat) : Int) = 1 from rfl, naf_odd (by decide), show ((1 : Int) - (2 - 1 % 4)) / 2 = 0 by decide, naf_zero] <;> rfl
  | f + 1, n, p, h => by
    rw [Nat.pow_succ] at h
    have hp : 0 < 2 ^ f := Nat.two_pow_pos f
    by_cases h0 : n = 0
    · subst h0; rw [show ((0 : Nat) : Int) = 0 from rfl, naf_zero] <;> rfl
    have key : n % 4 = 0 ∨ n % 4 = 1 ∨ n % 4 = 2 ∨ n % 4 = 3 := by omega
    unfold placesF
    rw [if_neg h0]
    rcases key with q | q | q | q
    · rw [if_neg (by omega), if_neg (by omega), placesF_eq f (n / 2) (p + 1) (by omega), naf_even (n := (n : Int)) (by omega), show ((n : Int)) / 2 = ((n / 2 : Nat) : Int) by omega]
    · rw [if_pos q, placesF_eq f ((n - 1) / 2) (p + 1) (by omega), naf_odd (n := (n : Int)) (by omega), show ((n : Int) - (2 - (n : Int) % 4)) / 2 = (((n - 1) / 2 : Nat) : Int) by omega, List.map_cons]
    · rw [if_neg (by omega), if_neg (by omega), placesF_eq f (n / 2) (p + 1) (by omega), naf_even (n := (n : Int)) (by omega), show ((n : Int)) / 2 = ((n / 2 : Nat) : Int) by omega]
    · rw [if_neg (by omega), if_pos q, placesF_eq f ((n + 1) / 2) (p + 1) (by omega), naf_odd (n := (n : Int)) (by omega), show ((n : Int) - (2 - (n : Int) % 4)) / 2 = (((n + 1) / 2 : Nat) : Int) by omega, List.map_cons]
theorem size_toT (n : Int) : (toT n).size = 1 + (((naf n 0).map (·.2)).map fun p : Nat => (toT (p : Int)).size).sum := by
  rw [size_toL, toL_toT, List.map_map, List.map_map]
  congr 1
  exact (List.reverse_perm _).map _ |>.sum_nat
def szF : Nat → Nat → Nat
  | 0, _ => 1
  | d + 1, n => 1 + ((placesF 15 n 0).map (szF d)).sum
theorem szF_eq : ∀ (d n : Nat), n < Cb (d + 1) → n ≤ 16384 → szF d n = (toT (n : Int)).size
  | 0, n, h, _ => by
    have : n = 0 := by
      have : n < 1 := h
      omega
    subst this
    rw [show ((0 : Nat) : Int) = 0 from rfl, toT_eq, naf_zero] <;> rfl
  | d + 1, n, h, h2 => by
    rw [size_toT, szF, placesF_eq 14 n 0 h2]
    congr 2
    refine List.map_congr_left fun p hp => ?_
    obtain ⟨x, hx, rfl⟩ := List.mem_map.mp hp
    refine szF_eq d x.2 (Cb_step (by simpa using h) hx) ?_
    have := naf_lt hx
    simp at this
    omega
theorem Cb_ge5 : 16385 ≤ Cb 6 := by
  have h3 : Cb 3 = 3 := by decide
  have h4 : Cb 4 = 5 := by show 2 ^ (Cb 3 - 1) + 1 = 5; rw [h3] <;> rfl
  have h5 : Cb 5 = 17 := by show 2 ^ (Cb 4 - 1) + 1 = 17; rw [h4] <;> rfl
  have h6 : Cb 6 = 65537 := by show 2 ^ (Cb 5 - 1) + 1 = 65537; rw [h5] <;> rfl
  omega
theorem sz_le (n : Nat) (h : n ≤ 16384) : szF 5 n = (toT (n : Int)).size := szF_eq 5 n (Nat.lt_of_lt_of_le (Nat.lt_succ_of_le h) Cb_ge5) h
def tb : List Nat := [1, 2, 3, 5, 4, 5, 8, 7, 6, 7, 8, 9, 8, 9]
theorem tb_eq : ∀ p : Nat, p < 14 → tb.getD p 0 = (toT (p : Int)).size := by
  have h : ∀ p : Nat, p < 14 → tb.getD p 0 = szF 5 p := by decide +kernel
  intro p hp
  rw [← sz_le p (by omega)]
  exact h p hp
theorem sz14 : ∀ p : Nat, p < 14 → (toT (p : Int)).size ≤ 9 := by
  intro p hp
  rw [← tb_eq p hp]
  exact (by decide : ∀ p : Nat, p < 14 → tb.getD p 0 ≤ 9) p hp
def costF : Nat → Nat → Nat → Nat
  | 0, _, _ => 0
  | f + 1, n, p => if n = 0 then 0 else if n % 4 = 1 then tb.getD p 0 + costF f ((n - 1) / 2) (p + 1) else if n % 4 = 3 then tb.getD p 0 + costF f ((n + 1) / 2) (p + 1) else costF f (n / 2) (p + 1)
theorem costF_eq : ∀ (f n p : Nat), costF f n p = ((placesF f n p).map fun q => tb.getD q 0).sum
  | 0, _, _ => rfl
  | f + 1, n, p => by
    unfold costF placesF
    split
    · rfl
    · split
      · rw [List.map_cons, List.sum_cons, costF_eq f]
      · split
        · rw [List.map_cons, List.sum_cons, costF_eq f]
        · exact costF_eq f _ _
theorem sz_cost (n : Nat) (h : n ≤ 4096) : (toT (n : Int)).size = 1 + costF 13 n 0 := by
  rw [size_toT, costF_eq, placesF_eq 12 n 0 h]
  congr 2
  refine List.map_congr_left fun p hp => ?_
  obtain ⟨x, hx, rfl⟩ := List.mem_map.mp hp
  have := naf_le (m := 12) (by simpa using h) hx
  exact (tb_eq x.2 (by omega)).symm
theorem sz2810 : ∀ p : Nat, p < 2810 → (toT (p : Int)).size ≤ 39 := by
  have h : ∀ p : Nat, p < 2810 → costF 13 p 0 ≤ 38 := by decide +kernel
  intro p hp
  rw [sz_cost p (by omega)]
  have := h p hp
  omega
theorem height_toT : ∀ (d : Nat) (n : Int), n.natAbs < Cb (d + 1) → (toT n).height ≤ d
  | 0, n, h => by
    have : n = 0 := by
      have : n.natAbs < 1 := h
      omega
    subst this
    rw [toT_eq, naf_zero]; exact Nat.le_refl _
  | d + 1, n, h => by
    refine height_le_of fun x hx => ?_
    rw [toL_toT] at hx
    obtain ⟨y, hy, rfl⟩ := List.mem_map.mp hx
    have := height_toT d (y.2 : Int) (by have := Cb_step h (List.mem_reverse.mp hy); simpa using this)
    exact Nat.succ_le_succ this
end Sk

set_option Elab.async false
set_option linter.all false
set_option maxRecDepth 100000
set_option maxHeartbeats 2000000
namespace Sk
theorem wt_neg : ∀ (k : Nat) (n : Int), n.natAbs ≤ k → wt (-n) = wt n
  | 0, n, h => by
    have : n = 0 := by omega
    subst this; rfl
  | k + 1, n, h => by
    by_cases h0 : n = 0
    · subst h0; rfl
    have key : n % 4 = 0 ∨ n % 4 = 1 ∨ n % 4 = 2 ∨ n % 4 = 3 := by omega
    rcases key with q | q | q | q
    · rw [wt_even (n := n) (by omega), wt_even (n := -n) (by omega), show -n / 2 = -(n / 2) by omega, wt_neg k _ (by omega)]
    · rw [wt_one (n := n) q, wt_three (n := -n) (by omega), show (-n + 1) / 4 = -((n - 1) / 4) by omega]
      by_cases hz : (n - 1) / 4 = 0
      · rw [hz]; rfl
      · rw [wt_neg k _ (by omega)]
    · rw [wt_even (n := n) (by omega), wt_even (n := -n) (by omega), show -n / 2 = -(n / 2) by omega, wt_neg k _ (by omega)]
    · rw [wt_three (n := n) q, wt_one (n := -n) (by omega), show (-n - 1) / 4 = -((n + 1) / 4) by omega]
      by_cases hz : (n + 1) / 4 = 0
      · rw [hz]; rfl
      · rw [wt_neg k _ (by omega)]
theorem wt_add_list : ∀ (l : List (Int × Nat)) (n : Int), (∀ x ∈ l, x.1 = 1 ∨ x.1 = -1) → wt (n + sumP l) ≤ wt n + l.length
  | [], n, _ => by show wt (n + 0) ≤ wt n; rw [Int.add_zero]; exact Nat.le_refl _
  | (s, p) :: r, n, h => by
    have h1 := wt_add_list r (n + s * 2 ^ p) fun x hx => h x (List.mem_cons_of_mem _ hx)
    have h2 := wt_pow p n s (h (s, p) List.mem_cons_self)
    show wt (n + (s * 2 ^ p + sumP r)) ≤ wt n + (r.length + 1)
    rw [← Int.add_assoc]
    omega
theorem wt_add (n c : Int) : wt (n + c) ≤ wt n + wt c := by
  have h := wt_add_list (naf c 0) n fun x hx => naf_sign hx
  rw [naf_sum _ c (Nat.le_refl _) 0] at h
  simpa [wt] using h
theorem wt_20 {c : Int} (h : c.natAbs ≤ 20) : wt c ≤ 3 := by
  have pos : ∀ k : Nat, k ≤ 20 → wt (k : Int) ≤ 3 := by
    have h : ∀ k : Nat, k < 21 → (placesF 6 k 0).length ≤ 3 := by decide +kernel
    intro k hk
    have := h k (by omega)
    rw [placesF_eq 5 k 0 (by omega), List.length_map] at this
    exact this
  rcases Int.le_total 0 c with h0 | h0
  · have := pos c.toNat (by omega)
    rwa [show ((c.toNat : Nat) : Int) = c by omega] at this
  · have := pos (-c).toNat (by omega)
    rw [show (((-c).toNat : Nat) : Int) = -c by omega, wt_neg _ _ (Nat.le_refl _)] at this
    exact this
theorem wt_mul_pow (h : Int) : ∀ k : Nat, wt (2 ^ k * h) = wt h
  | 0 => by rw [Int.pow_zero, Int.one_mul]
  | k + 1 => by rw [Int.pow_succ, Int.mul_comm (2 ^ k) 2, Int.mul_assoc, wt_dbl, wt_mul_pow h k]
/-- a sum of i signed powers of two, told apart at the place 14 -/
structure PlW (i : Nat) (n : Int) : Prop where
  wt : wt n ≤ i
  big : n.natAbs ≤ i * 2 ^ 2799
  part : ∃ (B r : Int) (j : Nat), n = 16384 * B + r ∧ j ≤ i ∧ Sk.wt B ≤ j ∧ r.natAbs ≤ (i - j) * 8192
theorem PlW.zero : PlW 0 0 := ⟨by rw [wt_zero]; exact Nat.le_refl _, Nat.zero_le _, 0, 0, 0, rfl, Nat.le_refl _, by rw [wt_zero]; exact Nat.le_refl _, Nat.zero_le _⟩
theorem PlW.next {i : Nat} {n s : Int} {p : Nat} (h : PlW i n) (hs : s = 1 ∨ s = -1) (hp : p < 2800) : PlW (i + 1) (n + s * 2 ^ p) := by
  have hp2 : 2 ^ p ≤ 2 ^ 2799 := Nat.pow_le_pow_right (by decide) (by omega)
  have hc : ((2 ^ p : Nat) : Int) = (2 : Int) ^ p := by norm_cast
  refine ⟨Nat.le_trans (wt_pow p n s hs) (Nat.succ_le_succ h.wt), ?_, ?_⟩
  · have h1 := h.big
    rw [Nat.succ_mul]
    generalize (2 : Nat) ^ 2799 = X at *
    generalize i * X = Y at *
    rw [← hc]
    generalize (2 : Nat) ^ p = Z at *
    rcases hs with rfl | rfl <;> omega
  · obtain ⟨B, r, j, h1, h2, h3, h4⟩ := h.part
    by_cases hq : 14 ≤ p
    · refine ⟨B + s * 2 ^ (p - 14), r, j + 1, ?_, by omega, Nat.le_trans (wt_pow _ B s hs) (by omega), by rw [Nat.add_sub_add_right]; exact h4⟩
      have e : (2 : Int) ^ p = 16384 * 2 ^ (p - 14) := by
        have : p = 14 + (p - 14) := by omega
        rw [this, Int.pow_add, Nat.add_sub_cancel_left] <;> rfl
      rw [e, h1, Int.mul_add, ← Int.mul_assoc s, Int.mul_comm s, Int.mul_assoc]
      omega
    · refine ⟨B, r + s * 2 ^ p, j, by rw [h1]; omega, by omega, h3, ?_⟩
      have e : 2 ^ p ≤ 2 ^ 13 := Nat.pow_le_pow_right (by decide) (by omega)
      have e2 : (2 : Nat) ^ 13 = 8192 := by decide
      rw [e2] at e
      rw [← hc]
      generalize (2 : Nat) ^ p = Z at *
      rcases hs with rfl | rfl <;> omega
theorem PlW.le {i : Nat} {n : Int} (h : PlW i n) (hi : i ≤ 5) : PlW 5 n := by
  obtain ⟨B, r, j, h1, h2, h3, h4⟩ := h.part
  exact ⟨Nat.le_trans h.wt hi, Nat.le_trans h.big (Nat.mul_le_mul_right _ hi), B, r, j, h1, by omega, h3, by omega⟩
theorem sum_all : ∀ (l : List Nat) (f : Nat → Nat) (m : Nat), (∀ p ∈ l, f p ≤ m) → (l.map f).sum ≤ m * l.length
  | [], _, _, _ => Nat.zero_le _
  | p :: l, f, m, h => by
    have h1 := sum_all l f m fun q hq => h q (List.mem_cons_of_mem _ hq)
    have h2 := h p List.mem_cons_self
    rw [List.map_cons, List.sum_cons, List.length_cons, Nat.mul_succ]
    omega
theorem sum_one : ∀ (l : List Nat) (f : Nat → Nat) (m a : Nat), (∀ p ∈ l, f p ≤ m) → (∃ p ∈ l, f p ≤ a) → (l.map f).sum + m ≤ m * l.length + a
  | [], _, _, _, _, ⟨p, hp, _⟩ => by cases hp
  | q :: l, f, m, a, h, ⟨p, hp, hq⟩ => by
    have h2 := h q List.mem_cons_self
    rw [List.map_cons, List.sum_cons, List.length_cons, Nat.mul_succ]
    rcases List.mem_cons.mp hp with rfl | hp
    · have h1 := sum_all l f m fun q hq => h q (List.mem_cons_of_mem _ hq)
      omega
    · have h1 := sum_one l f m a (fun q hq => h q (List.mem_cons_of_mem _ hq)) ⟨p, hp, hq⟩
      omega
theorem dvd_sumP : ∀ (l : List (Int × Nat)), (∀ x ∈ l, 14 ≤ x.2) → ∃ h : Int, sumP l = 16384 * h
  | [], _ => ⟨0, rfl⟩
  | (s, p) :: r, h => by
    obtain ⟨z, hz⟩ := dvd_sumP r fun x hx => h x (List.mem_cons_of_mem _ hx)
    have hp : 14 ≤ p := h (s, p) List.mem_cons_self
    refine ⟨s * 2 ^ (p - 14) + z, ?_⟩
    have e : (2 : Int) ^ p = 16384 * 2 ^ (p - 14) := by
      have : p = 14 + (p - 14) := by omega
      rw [this, Int.pow_add, Nat.add_sub_cancel_left] <;> rfl
    show s * 2 ^ p + sumP r = _
    rw [hz, e, Int.mul_add, ← Int.mul_assoc s, Int.mul_comm s, Int.mul_assoc]
theorem plain_big {n c : Int} (h : PlW 5 n) (hc : c.natAbs ≤ 20) : (n + c).natAbs ≤ 2 ^ 2802 := by
  have h1 := h.big
  have h2 : (2 : Nat) ^ 2802 = 2 ^ 2799 * 8 := by rw [show 2802 = 2799 + 3 by rfl, Nat.pow_add]
  have h3 : 20 ≤ (2 : Nat) ^ 2799 := Nat.le_trans (by decide : 20 ≤ 2 ^ 5) (Nat.pow_le_pow_right (by decide) (by decide))
  rw [h2]
  generalize (2 : Nat) ^ 2799 = X at *
  omega
theorem plain_fits {n c : Int} (h : PlW 5 n) (hc : c.natAbs ≤ 20) : (toT (n + c)).fits := by
  have hb := plain_big h hc
  have hw := Nat.le_trans (wt_add n c) (Nat.add_le_add h.wt (wt_20 hc))
  have hpl : ∀ p ∈ (naf (n + c) 0).map (·.2), (toT ((p : Nat) : Int)).size ≤ 39 := fun p hp => by
    obtain ⟨x, hx, rfl⟩ := List.mem_map.mp hp
    exact sz2810 _ (Nat.lt_of_le_of_lt (naf_le hb hx) (by decide))
  have hlen : ((naf (n + c) 0).map (·.2)).length = wt (n + c) := by rw [List.length_map] <;> rfl
  refine ⟨?_, Nat.le_trans (height_toT 6 _ (lt_Cb7 (k := 2803) (Nat.lt_of_le_of_lt hb (Nat.pow_lt_pow_right (by decide) (by decide))) (by decide))) (by decide)⟩
  rw [size_toT]
  by_cases hl : ∃ x ∈ naf (n + c) 0, x.2 < 14
  · obtain ⟨x, hx, hx14⟩ := hl
    have := sum_one ((naf (n + c) 0).map (·.2)) (fun p => (toT ((p : Nat) : Int)).size) 39 9 hpl ⟨x.2, List.mem_map.mpr ⟨x, hx, rfl⟩, sz14 _ hx14⟩
    rw [hlen] at this
    omega
  · have hall : ∀ x ∈ naf (n + c) 0, 14 ≤ x.2 := fun x hx => Nat.le_of_not_lt fun q => hl ⟨x, hx, q⟩
    obtain ⟨t, ht⟩ := dvd_sumP _ hall
    rw [naf_sum _ _ (Nat.le_refl _), Int.pow_zero, Int.mul_one] at ht
    obtain ⟨B, r, j, h1, h2, h3, h4⟩ := h.part
    have hw2 : wt (n + c) = wt t := by
      rw [ht]
      have := wt_mul_pow t 14
      rwa [show (2 : Int) ^ 14 = 16384 by decide] at this
    have hd : t = B ∨ t = B + 1 ∨ t = B + 1 + 1 ∨ t = B - 1 ∨ t = B - 1 - 1 := by omega
    have hw3 : wt t ≤ 7 := by
      have s1 := wt_succ B
      have s2 := wt_succ (B + 1)
      have p1 := wt_pred B
      have p2 := wt_pred (B - 1)
      rcases hd with rfl | rfl | rfl | rfl | rfl <;> omega
    have := sum_all ((naf (n + c) 0).map (·.2)) (fun p => (toT ((p : Nat) : Int)).size) 39 hpl
    rw [hlen] at this
    omega
end Sk

set_option Elab.async false
set_option linter.all false
set_option maxRecDepth 100000
set_option maxHeartbeats 2000000
namespace Sk
open PySem L2 Evl
/-- the terms above stay, those of an integer stand behind -/
theorem plus_can {t : T} {keep : Nat} {v : Int} (h : t.can) (hk : keep = 0 ∨ ∃ s e, t.toL[keep - 1]? = some (s, e) ∧ 0 < keep ∧ (bl v.natAbs : Int) + 2 ≤ e.val) : (ofL (t.toL.take keep ++ (toT v).toL)).can ∧ (ofL (t.toL.take keep ++ (toT v).toL)).val = (ofL (t.toL.take keep)).val + v := by
  refine ⟨can_ofL (fun x hx => ?_) ?_, by rw [val_app, ofL_toL, toT_val]⟩
  · rcases List.mem_append.mp hx with q | q
    · have := List.mem_of_mem_take q
      exact ⟨(can_sign h x this).1, (can_sign h x this).2, can_mem h x this⟩
    · exact ⟨(can_sign (toT_can v) x q).1, (can_sign (toT_can v) x q).2, can_mem (toT_can v) x q⟩
  · refine List.pairwise_append.mpr ⟨(can_gap h).sublist (List.take_sublist _ _), can_gap (toT_can v), fun x hx y hy => ?_⟩
    have hyb : y.2.val ≤ (bl v.natAbs : Int) := by
      rw [toL_toT] at hy
      obtain ⟨z, hz, rfl⟩ := List.mem_map.mp hy
      have := naf_le (n := v) (m := bl v.natAbs) (Nat.le_of_lt (lt_bl _)) (List.mem_reverse.mp hz)
      show (toT (z.2 : Int)).val ≤ _
      rw [toT_val]; omega
    rcases hk with rfl | ⟨s, e, h1, h2, h3⟩
    · rw [List.take_zero] at hx; cases hx
    · obtain ⟨i, hi, rfl⟩ := List.mem_iff_getElem.mp hx
      rw [List.length_take] at hi
      rw [List.getElem_take]
      obtain ⟨h4, h5⟩ := List.getElem?_eq_some_iff.mp h1
      rcases Nat.lt_or_ge i (keep - 1) with q | q
      · have := List.pairwise_iff_getElem.mp (can_gap h) i (keep - 1) (by omega) h4 q
        rw [h5] at this
        have h6 : e.val + 2 ≤ (t.toL[i]'(by omega)).2.val := this
        omega
      · have e1 : i = keep - 1 := by omega
        subst e1
        rw [h5]
        show y.2.val + 2 ≤ e.val
        omega
theorem intBits_abs (i : Int) : Builtin.Int.intBits i = bl i.natAbs := by
  unfold Builtin.Int.intBits bl
  by_cases h : i = 0
  · subst h; rfl
  · rw [if_neg (by simpa using h), if_neg (by omega)]
def pPlus (K : PySem.W.Frag) : V → V → Hp → VP → Prop := fun x y H R => ∃ (t : T) (v : Int) (B : Nat), NumV K H x t ∧ y = .int v ∧ t.can ∧ t.height ≤ 43 ∧ (∀ x ∈ t.toL, x.2.size < 90000) ∧ B + 3 * t.toL.length ≤ 2700 ∧ v.natAbs ≤ 2 ^ B ∧
  R = fun w H' => ∃ u, NumV K H' w u ∧ u.can ∧ u.val = t.val + v ∧ u.size ≤ t.size + 40 * (B + 3 * t.toL.length + 3) ∧ u.height ≤ max t.height 6
def sp_plus_small (K : PySem.W.Frag) : Sp := spF2 (pPlus K)
def t_plus_small (K : PySem.W.Frag) : TS := (tSeq (tIfS (tTest (tOp rEq (tVar 1) (tC (.int 0)))) (tRet (tVar 0)) tNext)
    (tSeq (tAsg (tCB (rLenS K) (tCons (tVar 0) tNil)) (gName 2))
    (tSeq (tWhile (tTest (tOp xGt (tVar 2) (tC (.int 0)))) (tSeq (tAsg (tOp (rIxT K) (tVar 0) (tOp xSub (tVar 2) (tC (.int 1)))) (gTup K 2 (gCons (gName 5) (gCons (gName 6) gNil))))
    (tSeq (tAsg (tOp xAdd (tBits (tVar 1)) (tC (.int 1))) (gName 3))
    (tSeq (tAsg (tCall (sp_value_within K 45) [] E0 (tCons (tVar 6) (tCons (tBits (tVar 3)) tNil))) (gName 4))
    (tSeq (tIfS (tOr (tTest (tOp xIsN (tVar 4) (tC .non))) (tTest (tOp xGt (tVar 4) (tVar 3)))) tBreak tNext)
    (tSeq (tAug 1 (tOp xShl (tVar 5) (tVar 4)) (ipI fun i j => i + j))
    (tAug 2 (tC (.int 1)) (ipI fun i j => i - j))))))))
    (tRet (tOp (rCatA K) (tSl (rSlA K) (tVar 0) tNoPart (tPart (tVar 2))) (tCall (sp_bare_number K 7) [] E0 (tCons (tVar 1) tNil)))))))
section
variable {K : PySem.W.Frag} {σ : L2.St} {H : Hp} {te tf ta : TE}
/-- a + b, both tuples -/
theorem er_catT {P P' : List V → Hp → Prop} (h : ER te σ H (fun v H2 => ∃ p xs, v = .ref p ∧ SqT K H2 p xs ∧ P xs H2)) (m : MonoL P) (h' : ER tf σ H (fun v H2 => ∃ p xs, v = .ref p ∧ SqT K H2 p xs ∧ P' xs H2)) (m' : MonoL P') (hz : ∀ xs ys H1 H2, P xs H1 → P' ys H2 → xs.length + ys.length ≤ 100000) :
    ER (tOp (rCatA K) te tf) σ H (fun v H2 => ∃ p xs ys, v = .ref p ∧ SqT K H2 p (xs ++ ys) ∧ P xs H2 ∧ P' ys H2) := fun H1 e Q q =>
  h H1 e _ fun v H2 e2 ⟨p, xs, hv, h1, h2⟩ => h' H2 (e.trans e2) _ fun w H3 e3 ⟨p', ys, hw, h3, h4⟩ => by
    subst hv hw
    refine ⟨p, p', xs, ys, rfl, rfl, ex_t e3 h1, h3, sz_of (hz _ _ _ _ h2 h4), fun hx => ?_, fun hx hy => ?_, fun hx hy r hr => ?_⟩
    · subst hx
      exact q _ H3 (e2.trans e3) ⟨p', [], ys, rfl, h3, m _ _ _ e3 h2, h4⟩
    · subst hy
      exact q _ H3 (e2.trans e3) ⟨p, xs, [], rfl, by rw [List.append_nil]; exact ex_t e3 h1, m _ _ _ e3 h2, h4⟩
    · exact q _ _ ((e2.trans e3).trans (Ex.new hr)) ⟨r, xs, ys, rfl, st_of upd_same, m _ _ _ (e3.trans (Ex.new hr)) h2, m' _ _ _ (Ex.new hr) h4⟩
end
theorem size_app : ∀ l l' : List (Int × T), (ofL (l ++ l')).size + 1 = (ofL l).size + (ofL l').size
  | [], l' => by show (ofL l').size + 1 = 1 + _; omega
  | (s, e) :: l, l' => by
    have := size_app l l'
    show e.size + (ofL (l ++ l')).size + 1 = e.size + (ofL l).size + _
    omega
theorem height_app : ∀ l l' : List (Int × T), (ofL (l ++ l')).height = max (ofL l).height (ofL l').height
  | [], l' => by show (ofL l').height = max 0 _; omega
  | (s, e) :: l, l' => by
    have := height_app l l'
    show max (e.height + 1) (ofL (l ++ l')).height = max (max (e.height + 1) (ofL l).height) _
    omega
theorem size_take (t : T) (n : Nat) : (ofL (t.toL.take n)).size ≤ t.size := by
  have h := size_app (t.toL.take n) (t.toL.drop n)
  rw [List.take_append_drop, ofL_toL] at h
  have := size_pos (ofL (t.toL.drop n))
  omega
theorem height_take (t : T) (n : Nat) : (ofL (t.toL.take n)).height ≤ t.height := by
  have h := height_app (t.toL.take n) (t.toL.drop n)
  rw [List.take_append_drop, ofL_toL] at h
  omega
theorem size_drop (t : T) (n : Nat) : (ofL (t.toL.drop n)).size ≤ t.size := by
  have h := size_app (t.toL.take n) (t.toL.drop n)
  rw [List.take_append_drop, ofL_toL] at h
  have := size_pos (ofL (t.toL.take n))
  omega
theorem height_drop (t : T) (n : Nat) : (ofL (t.toL.drop n)).height ≤ t.height := by
  have h := height_app (t.toL.take n) (t.toL.drop n)
  rw [List.take_append_drop, ofL_toL] at h
  omega
/-- the size of an integer's number -/
theorem toT_size {n : Int} {k : Nat} (h : n.natAbs ≤ 2 ^ k) (hk : k < 2810) : (toT n).size ≤ 1 + 39 * (k + 1) := by
  rw [size_toT]
  have h1 : ∀ p ∈ ((naf n 0).map (·.2) : List Nat), (toT (p : Int)).size ≤ 39 := by
    intro p hp
    obtain ⟨x, hx, rfl⟩ := List.mem_map.mp hp
    have := naf_le h hx
    exact sz2810 x.2 (by omega)
  have h2 := sum_all ((naf n 0).map (·.2) : List Nat) (fun p => (toT (p : Int)).size) 39 h1
  have h3 := naf_len k n 0 h
  rw [List.length_map] at h2
  have : 39 * (naf n 0).length ≤ 39 * (k + 1) := Nat.mul_le_mul_left _ h3
  omega
theorem pure_plus_small {K : PySem.W.Frag} {vs : List V} {H : Hp} {Q : VK} {E : XK} (h : sp_plus_small K vs H Q E) : t_plus_small K { nx := fun _ H' => Q .non H', rt := Q } (start ["number", "value", "keep", "reach", "place", "sign", "exponent"] vs) H := by
  obtain ⟨x, y, R, rfl, ⟨t, v, B, hx, rfl, hc, hh, hz, hlen, hb, rfl⟩, k⟩ := h
  refine q_when (et_test (ev_eq (ev_var rfl) ev_c rfl)) (fun hv H1 e1 => ?_) (fun hv H1 e1 => ?_)
  · have hv0 : v = 0 := by simpa using hv
    subst hv0
    exact s_ret (ev_var rfl) fun H2 e2 => k _ _ (e1.trans e2) ⟨t, hx.ex (e1.trans e2), hc, by omega, by omega, by omega⟩
  have hx0 := hx
  obtain ⟨a, xs, rfl, hs, ht⟩ := hx.out
  have hl : xs.length = t.toL.length := ht.len
  refine q_asg (ev_lenT (ev_var rfl) (ex_t e1 hs)) fun H2 e2 => ?_
  have fin : ∀ (H' : Hp) (σ : L2.St) (keep : Nat) (v' : Int) (z3 z4 z5 z6 : Option V), σ = [some (.ref a), some (.int v'), some (.int (keep : Int)), z3, z4, z5, z6] → Ex H H' → v'.natAbs ≤ 2 ^ (B + 3 * t.toL.length) → (ofL (t.toL.take keep)).val + v' = t.val + v → (keep = 0 ∨ ∃ s e, t.toL[keep - 1]? = some (s, e) ∧ 0 < keep ∧ (bl v'.natAbs : Int) + 2 ≤ e.val) →
      tRet (tOp (rCatA K) (tSl (rSlA K) (tVar 0) tNoPart (tPart (tVar 2))) (tCall (sp_bare_number K 7) [] E0 (tCons (tVar 1) tNil))) { nx := fun _ H' => Q .non H', rt := Q } σ H' := by
    rintro H' σ keep v' z3 z4 z5 z6 rfl e hv' hval hk
    have hv6 : v'.natAbs < 2 ^ 2701 := Nat.lt_of_le_of_lt hv' (Nat.pow_lt_pow_right (by decide) (by omega))
    refine s_retR (er_catT (P := fun xs' H2 => ItemsR (TermI K) (t.toL.take keep) xs' H2) (P' := fun ys H2 => ItemsR (TermI K) (toT v').toL ys H2) ((er_upTo (ev_var rfl) (ex_t e hs) (ev_var rfl)).imp fun v H3 e3 ⟨q, g1, g2⟩ => ⟨q, _, g1, g2, ((items_terms ht).ex (fun x => termIm) (e.trans e3)).take keep⟩) (fun ys Ha Hb e h => h.ex (fun x => termIm) e)
      ((er_call1 (R1 := fun v _ => v = .int v') (er_is (ev_var rfl)) monoC fun v H3 e3 hv => ⟨v', hv, lt_Cb7 (k := 2701) hv6 (by decide), by decide, rfl⟩).imp fun v H3 e3 h => by
        obtain ⟨b, ys, g1, g2, g3⟩ := h.out
        exact ⟨b, ys, g1, g2, items_terms g3⟩) (fun ys Ha Hb e h => h.ex (fun x => termIm) e) (fun xs' ys Ha Hb g1 g2 => by
        have l1 := g1.1
        have l2 := g2.1
        rw [List.length_take] at l1
        have l3 := toT_len (n := v') (k := 2701) (Nat.le_of_lt hv6)
        omega)) fun w H3 e3 ⟨p, xs', ys, hw, g1, g2, g3⟩ => k _ _ (e.trans e3) ?_
    obtain ⟨c1, c2⟩ := plus_can hc hk
    have s1 := size_app (t.toL.take keep) (toT v').toL
    have s2 := size_take t keep
    have s3 := toT_size (n := v') hv' (by omega)
    have s4 := height_app (t.toL.take keep) (toT v').toL
    have s5 := height_take t keep
    have s6 := height_toT 6 v' (lt_Cb7 (k := 2701) hv6 (by decide))
    rw [ofL_toL] at s1 s4
    exact ⟨_, by rw [hw]; exact NumV.mk g1 (terms_items (g2.append g3)), c1, by rw [c2]; exact hval, by omega, by omega⟩
  refine q_while' (fun m σ H' => ∃ (keep : Nat) (v' : Int) (z3 z4 z5 z6 : Option V), σ = [some (.ref a), some (.int v'), some (.int (keep : Int)), z3, z4, z5, z6] ∧ m = keep ∧ keep ≤ t.toL.length ∧ Ex H H' ∧ v'.natAbs ≤ 2 ^ (B + 3 * (t.toL.length - keep)) ∧ (ofL (t.toL.take keep)).val + v' = t.val + v) t.toL.length
    ⟨t.toL.length, v, none, none, none, none, by rw [← hl]; rfl, rfl, Nat.le_refl _, e1.trans e2, by rw [Nat.sub_self]; exact hb, by rw [List.take_length, ofL_toL]⟩ ?_
  rintro keep σ H3 ⟨_, v', z3, z4, z5, z6, rfl, rfl, hkl, e3, hv', hval⟩
  have hv6 : v'.natAbs ≤ 2 ^ (B + 3 * t.toL.length) := Nat.le_trans hv' (Nat.pow_le_pow_right (by decide) (by omega))
  have hv7 : v'.natAbs < 2 ^ 2701 := Nat.lt_of_le_of_lt hv6 (Nat.pow_lt_pow_right (by decide) (by omega))
  refine ⟨decide ((0 : Int) < (keep : Int)), et_test (ev_gt (ev_var rfl) ev_c), fun hk H4 e4 => ?_, fun hk H4 e4 => ?_⟩
  · have hk0 : 0 < keep := by have := of_decide_eq_true hk; omega
    obtain ⟨j, rfl⟩ : ∃ j, keep = j + 1 := ⟨keep - 1, by omega⟩
    obtain ⟨⟨s, e⟩, hget⟩ : ∃ a, t.toL[j]? = some a := ⟨_, List.getElem?_eq_getElem (by omega)⟩
    have hit := (items_terms ht).ex (fun x => termIm) (e3.trans e4)
    obtain ⟨zx, hzx, q, w, hzq, hq, hw⟩ := hit.at hget
    subst hzq
    have hmem := List.mem_of_getElem? hget
    have hsg := (can_sign hc _ hmem)
    have hsg1 : s = 1 ∨ s = -1 := hsg.1
    have he0 : 0 ≤ e.val := hsg.2
    have hec := can_mem hc _ hmem
    have hms : e.size < t.size ∧ e.height < t.height := mem_size hmem
    refine q_unpack2 (R := fun v _ => v = .ref q) (er_is (ev_atT (k := (((j + 1 : Nat) : Int) - 1)) (ev_var rfl) (ev_sub (ev_var rfl) ev_c) (ex_t (e3.trans e4) hs) (by
      have : ((j + 1 : Nat) : Int) - 1 = (j : Int) := by omega
      rw [this]
      exact atI_nat hzx))) fun v H5 e5 hv => ⟨q, .int s, w, hv, ex_t e5 hq, ?_⟩
    refine q_asg (ev_add (ev_is (ev_bits (ev_var rfl)) (by rw [intBits_abs])) ev_c) fun H6 e6 => ?_
    refine q_asgR (R := fun u _ => u = optV (e.within (bl (bl v'.natAbs + 1)))) (er_call2 (R1 := fun v H => NumV K H v e) (R2 := fun u _ => u = .int (bl (bl v'.natAbs + 1) : Nat)) (er_var rfl fun H7 e7 => hw.ex (e5.trans (e6.trans e7))) numT.mono (er_is (ev_is (ev_bits (ev_var rfl)) (by rw [← intBits_bl]; rfl))) monoC fun u u' H7 e7 g1 g2 => ⟨e, _, g1, g2, nn_of_can hec (by have := hz _ hmem; have h' : e.size < 90000 := this; omega), by omega, ?_, by have := len_size e; have := hz _ hmem; have h' : e.size < 90000 := this; omega, rfl⟩) fun u H7 e7 hu => ?_
    · have h1 := bl_le (bl v'.natAbs + 1)
      have h2 : bl v'.natAbs ≤ 2701 := by
        rw [← intBits_abs]
        exact (intBits_le_iff v' 2701).mpr hv7
      omega
    subst hu
    have e37 := e4.trans (e5.trans (e6.trans e7))
    have brk : (bl v'.natAbs : Int) + 2 ≤ e.val → j + 1 = 0 ∨ ∃ s e, t.toL[j + 1 - 1]? = some (s, e) ∧ 0 < j + 1 ∧ (bl v'.natAbs : Int) + 2 ≤ e.val := fun h => .inr ⟨s, e, hget, by omega, h⟩
    cases hwi : e.within (bl (bl v'.natAbs + 1)) with
    | none =>
      refine q_when (b := true) (et_or (a := true) (b := false) (et_test (ev_is (ev_isN (ev_var rfl)) rfl)) (fun h => by cases h)) (fun _ H8 e8 => ?_) (fun h => by cases h)
      have hn : 2 ^ bl (bl v'.natAbs + 1) < e.val.natAbs := can_none hec hwi
      have h1 := lt_bl (bl v'.natAbs + 1)
      exact fin H8 _ (j + 1) v' _ _ _ _ rfl (e3.trans (e37.trans e8)) hv6 hval (brk (by omega))
    | some p =>
      have hpv := within_val _ _ _ hwi
      refine q_when (b := decide ((bl v'.natAbs : Int) + 1 < p)) (et_is (et_or (a := false) (et_test (ev_is (ev_isN (ev_var rfl)) rfl)) fun _ => et_test (ev_gt (ev_var rfl) (ev_var rfl))) (Bool.false_or _)) (fun hb1 H8 e8 => ?_) (fun hb1 H8 e8 => ?_)
      · have := of_decide_eq_true hb1
        exact fin H8 _ (j + 1) v' _ _ _ _ rfl (e3.trans (e37.trans e8)) hv6 hval (brk (by omega))
      · have hle := of_decide_eq_false hb1
        refine q_aug (a := v') (b := s * 2 ^ p.toNat) rfl (ev_shl (ev_var rfl) (ev_var rfl) ⟨by omega, by
          have h2 : bl v'.natAbs ≤ 2701 := by
            rw [← intBits_abs]
            exact (intBits_le_iff v' 2701).mpr hv7
          omega, by rcases hsg1 with rfl | rfl <;> decide⟩) fun H9 e9 => ?_
        refine s_aug (a := ((j + 1 : Nat) : Int)) (b := 1) rfl ev_c fun H10 e10 => ?_
        refine ⟨j, by omega, j, v' + s * 2 ^ p.toNat, _, _, _, _, by
          have : ((j + 1 : Nat) : Int) - 1 = (j : Int) := by omega
          rw [this]; rfl, rfl, by omega, e3.trans (e37.trans (e8.trans (e9.trans e10))), ?_, ?_⟩
        · have hbl : bl v'.natAbs ≤ B + 3 * (t.toL.length - (j + 1)) + 1 := by
            rw [← intBits_abs]
            exact (intBits_le_iff v' _).mpr (Nat.lt_of_le_of_lt hv' (Nat.pow_lt_pow_right (by decide) (by omega)))
          have hp2 : 2 ^ p.toNat ≤ 2 ^ (B + 3 * (t.toL.length - (j + 1)) + 2) := Nat.pow_le_pow_right (by decide) (by omega)
          have e11 : B + 3 * (t.toL.length - j) = B + 3 * (t.toL.length - (j + 1)) + 3 := by omega
          rw [e11]
          generalize B + 3 * (t.toL.length - (j + 1)) = B' at *
          have hB : 0 < 2 ^ B' := Nat.two_pow_pos B'
          rw [Nat.pow_add] at hp2 ⊢
          have h8 : (2 : Nat) ^ 3 = 8 := by decide
          have h4 : (2 : Nat) ^ 2 = 4 := by decide
          rw [h8]
          rw [h4] at hp2
          have habs : (s * 2 ^ p.toNat).natAbs = 2 ^ p.toNat := by
            rw [Int.natAbs_mul, Int.natAbs_pow]
            rcases hsg1 with rfl | rfl <;> simp
          have := Int.natAbs_add_le v' (s * 2 ^ p.toNat)
          omega
        · rw [take_step hget, ← hpv] at hval
          omega
  · have hk0 : keep = 0 := by
      have := of_decide_eq_false hk
      omega
    exact fin H4 _ keep v' _ _ _ _ rfl (e3.trans e4) hv6 hval (.inl hk0)
end Sk

set_option Elab.async false
set_option linter.all false
set_option maxRecDepth 100000
set_option maxHeartbeats 1000000
namespace Sk
open PySem L2 Evl
/-! ### how near two numbers are -/
theorem bl_le_iff (n k : Nat) : bl n ≤ k ↔ n < 2 ^ k := by
  have := intBits_le_iff (n : Int) k
  rw [intBits_abs] at this
  simpa using this
theorem bl_gt_iff (n k : Nat) : k < bl n ↔ 2 ^ k ≤ n := by
  have := bl_le_iff n k
  omega
/-- a sum of a number and an integer: the terms above stay, those below are taken into the integer -/
theorem absorb {t : T} (h : t.can) : ∀ (j : Nat) (v : Int), j ≤ t.toL.length → ∃ (keep : Nat) (v' : Int), keep ≤ j ∧ (ofL (t.toL.take j)).val + v = (ofL (t.toL.take keep)).val + v' ∧ (keep = 0 ∨ ∃ s e, t.toL[keep - 1]? = some (s, e) ∧ 0 < keep ∧ (bl v'.natAbs : Int) + 2 ≤ e.val) ∧ bl v'.natAbs ≤ bl v.natAbs + 2 * (j - keep)
  | 0, v, _ => ⟨0, v, Nat.le_refl _, rfl, .inl rfl, by omega⟩
  | j + 1, v, hj => by
    obtain ⟨⟨s, e⟩, hget⟩ : ∃ a, t.toL[j]? = some a := ⟨_, List.getElem?_eq_getElem (by omega)⟩
    by_cases hc : (bl v.natAbs : Int) + 2 ≤ e.val
    · exact ⟨j + 1, v, Nat.le_refl _, rfl, .inr ⟨s, e, hget, Nat.succ_pos _, hc⟩, by omega⟩
    · have hmem := List.mem_of_getElem? hget
      have hsg : (s = 1 ∨ s = -1) ∧ 0 ≤ e.val := can_sign h _ hmem
      have hb : bl (v + s * 2 ^ e.val.toNat).natAbs ≤ bl v.natAbs + 2 := by
        rw [bl_le_iff]
        have h1 : v.natAbs < 2 ^ bl v.natAbs := (bl_le_iff _ _).mp (Nat.le_refl _)
        have h2 : 2 ^ e.val.toNat ≤ 2 ^ (bl v.natAbs + 1) := Nat.pow_le_pow_right (by decide) (by omega)
        have h3 : (s * 2 ^ e.val.toNat).natAbs = 2 ^ e.val.toNat := by
          rw [Int.natAbs_mul, Int.natAbs_pow]
          rcases hsg.1 with rfl | rfl <;> simp
        have h4 := Int.natAbs_add_le v (s * 2 ^ e.val.toNat)
        rw [Nat.pow_succ] at h2
        rw [Nat.pow_add]
        have h22 : (2 : Nat) ^ 2 = 4 := by decide
        rw [h22]
        omega
      obtain ⟨keep, v', h1, h2, h3, h4⟩ := absorb h j (v + s * 2 ^ e.val.toNat) (by omega)
      refine ⟨keep, v', by omega, ?_, h3, by omega⟩
      rw [take_step hget, ← h2]
      omega
/-- two numbers whose first terms differ: neither is much longer than their difference -/
theorem near_len {t u : T} (ht : t.can) (hu : u.can) (hd : ∀ x y, t.toL[0]? = some x → u.toL[0]? = some y → x ≠ y) : bl t.val.natAbs ≤ bl (t.val - u.val).natAbs + 2 * u.toL.length := by
  obtain ⟨keep, v', h1, h2, h3, h4⟩ := absorb hu u.toL.length (t.val - u.val) (Nat.le_refl _)
  rw [List.take_length, ofL_toL] at h2
  have hv : t.val = (ofL (u.toL.take keep)).val + v' := by rw [← h2]; omega
  rcases Nat.eq_zero_or_pos keep with h0 | h0
  · subst h0
    rw [List.take_zero] at hv
    have : t.val = v' := by rw [hv]; show 0 + v' = v'; omega
    rw [← this] at h4
    omega
  · exfalso
    obtain ⟨c1, c2⟩ := plus_can hu h3
    have heq : ofL (u.toL.take keep ++ (toT v').toL) = t := can_uniq c1 ht (by rw [c2, hv])
    have hl : 0 < u.toL.length := by omega
    have h5 : u.toL[0]? = some u.toL[0] := List.getElem?_eq_getElem hl
    have h6 : t.toL[0]? = some u.toL[0] := by
      rw [← heq, toL_ofL, List.getElem?_append_left (by rw [List.length_take]; omega), List.getElem?_take, if_pos h0, h5]
    exact hd _ _ h6 h5 rfl
theorem bl_neg (a b : Int) : bl (a - b).natAbs = bl (b - a).natAbs := by
  have : (a - b).natAbs = (b - a).natAbs := by omega
  rw [this]
/-- two numbers behind their common beginning -/
theorem drop_first {t u : T} {j : Nat} (h : ∀ x y, t.toL[j]? = some x → u.toL[j]? = some y → x ≠ y) : ∀ x y, (ofL (t.toL.drop j)).toL[0]? = some x → (ofL (u.toL.drop j)).toL[0]? = some y → x ≠ y := by
  intro x y h1 h2
  rw [toL_ofL, List.getElem?_drop] at h1 h2
  exact h x y h1 h2
theorem far_of_none {t u : T} {j : Nat} (ht : t.can) (hu : u.can) (he : t.toL.take j = u.toL.take j) (hd : ∀ x y, t.toL[j]? = some x → u.toL[j]? = some y → x ≠ y)
    (hn : (ofL (t.toL.drop j)).within (64 + 2 * ((t.toL.drop j).length + (u.toL.drop j).length)) = none ∨ (ofL (u.toL.drop j)).within (64 + 2 * ((t.toL.drop j).length + (u.toL.drop j).length)) = none) : 2 ^ 64 ≤ (t.val - u.val).natAbs := by
  have c1 := can_drop ht j
  have c2 := can_drop hu j
  have hv : t.val - u.val = (ofL (t.toL.drop j)).val - (ofL (u.toL.drop j)).val := by
    rw [val_cut t j, val_cut u j, he]; omega
  have n1 := near_len c1 c2 (drop_first hd)
  have n2 := near_len c2 c1 (fun x y h1 h2 q => drop_first hd y x h2 h1 q.symm)
  rw [bl_neg] at n2
  rw [toL_ofL] at n1 n2
  rw [hv, ← bl_gt_iff]
  rcases hn with h | h
  · have h3 := can_none c1 h
    have h4 := (bl_gt_iff _ _).mpr (Nat.le_of_lt h3)
    omega
  · have h3 := can_none c2 h
    have h4 := (bl_gt_iff _ _).mpr (Nat.le_of_lt h3)
    omega
/-! ### gap -/
def GapR (a b : Int) : VP := fun v _ => (v = .non ∧ 2 ^ 64 ≤ (a - b).natAbs) ∨ v = .int (a - b)
def pGap (K : PySem.W.Frag) : V → V → Hp → VP → Prop := fun x y H R => ∃ (t u : T), NumV K H x t ∧ NumV K H y u ∧ t.can ∧ u.can ∧ t.height ≤ 44 ∧ u.height ≤ 44 ∧ t.size < 90000 ∧ u.size < 90000 ∧ t.toL.length ≤ 20000 ∧ u.toL.length ≤ 20000 ∧ R = GapR t.val u.val
def sp_gap (K : PySem.W.Frag) : Sp := spF2 (pGap K)
def t_gap (K : PySem.W.Frag) : TS := (tSeq (tAsg (tC (.int 0)) (gName 2))
    (tSeq (tFor (RZ.iZipA K (tCons (tVar 0) (tCons (tVar 1) tNil))) (gTup K 2 (gCons (gName 8) (gCons (gName 9) gNil))) (tSeq (tIfS (tTest (tOp (rNeN K) (tVar 8) (tVar 9))) tBreak tNext)
    (tAug 2 (tC (.int 1)) (ipI fun i j => i + j))))
    (tSeq (tAsg (tSl (rSlA K) (tVar 0) (tPart (tVar 2)) tNoPart) (gName 3))
    (tSeq (tAsg (tSl (rSlA K) (tVar 1) (tPart (tVar 2)) tNoPart) (gName 4))
    (tSeq (tAsg (tOp xAdd (tC (.int 64)) (tOp xMul (tC (.int 2)) (tOp xAdd (tCB (rLenS K) (tCons (tVar 3) tNil)) (tCB (rLenS K) (tCons (tVar 4) tNil))))) (gName 5))
    (tSeq (tAsg (tCall (sp_value_within K 45) [] E0 (tCons (tVar 3) (tCons (tVar 5) tNil))) (gName 6))
    (tSeq (tIfS (tTest (tOp xIsN (tVar 6) (tC .non))) (tRet (tC .non)) tNext)
    (tSeq (tAsg (tCall (sp_value_within K 45) [] E0 (tCons (tVar 4) (tCons (tVar 5) tNil))) (gName 7))
    (tRet (tIf (tTest (tOp xIsN (tVar 7) (tC .non))) (tC .non) (tOp xSub (tVar 6) (tVar 7))))))))))))
/-- for x, y in zip(a, b), both tuples -/
theorem q_forZ {K : PySem.W.Frag} {σ : L2.St} {H : Hp} {D : Ends} {tz tb : TS} {i j pi pj : Nat} {a b : Addr} {xs ys : List V} {n : Nat} (hi : σ[pi]? = some (some (.ref a))) (hj : σ[pj]? = some (some (.ref b))) (ha : SqT K H a xs) (hb : SqT K H b ys) (hn : n = min xs.length ys.length) (Pv : Nat → L2.St → Hp → Prop) (h0 : Pv 0 σ H) (hq : ∀ m σ' H', Pv m σ' H' → Ex H H')
    (hs : ∀ m x y σ' H', m < n → xs[m]? = some x → ys[m]? = some y → Pv m σ' H' → ∀ H1, Ex H' H1 → tb { D with nx := Pv (m + 1), ct := Pv (m + 1), bk := tz D } ((σ'.set i (some x)).set j (some y)) H1) (hd : ∀ σ' H', Pv n σ' H' → tz D σ' H') :
    tSeq (tFor (RZ.iZipA K (tCons (tVar pi) (tCons (tVar pj) tNil))) (gTup K 2 (gCons (gName i) (gCons (gName j) gNil))) tb) tz D σ H := by
  refine ⟨_, hi, _, hj, a, b, xs, ys, rfl, .inr ⟨ha, hb, ?_⟩⟩
  refine forE_by (D := { D with nx := tz D }) (u := fun D' => D'.nx) n Pv h0 (fun m σ' H' hm p => ?_) (fun σ' H' p => ?_) (fun m v σ' H' H'' hm p y => ?_) hd
  · exact (walk_zipT hn).goes m H' hm ⟨ex_t (hq _ _ _ p) ha, ex_t (hq _ _ _ p) hb⟩
  · exact (walk_zipT hn).stops H' ⟨ex_t (hq _ _ _ p) ha, ex_t (hq _ _ _ p) hb⟩
  · obtain ⟨T, x, z, h1, h2, h3, h4, h5⟩ := y
    subst h1 h3
    refine g_pair (st_of upd_same) ?_
    exact hs m x z σ' H' hm (h4 xs (ex_t (hq _ _ _ p) ha)) (h5 ys (ex_t (hq _ _ _ p) hb)) p _ (Ex.new h2)
theorem pure_gap {K : PySem.W.Frag} {vs : List V} {H : Hp} {Q : VK} {E : XK} (h : sp_gap K vs H Q E) : t_gap K { nx := fun _ H' => Q .non H', rt := Q } (start ["first", "second", "same", "upper", "lower", "bits", "high", "low", "left", "right"] vs) H := by
  obtain ⟨x, y, R, rfl, ⟨t, u, hx, hy, ht, hu, hh1, hh2, hz1, hz2, hl1, hl2, rfl⟩, k⟩ := h
  obtain ⟨a, xs, rfl, ha, hxs⟩ := hx.out
  obtain ⟨b, ys, rfl, hb, hys⟩ := hy.out
  have lx := hxs.len
  have ly := hys.len
  have it1 := items_terms hxs
  have it2 := items_terms hys
  -- behind the loop
  have rest : ∀ (j : Nat) (z8 z9 : Option V) (H1 : Hp), Ex H H1 → t.toL.take j = u.toL.take j → (∀ x y, t.toL[j]? = some x → u.toL[j]? = some y → x ≠ y) → j ≤ 20000 →
      tSeq (tAsg (tSl (rSlA K) (tVar 0) (tPart (tVar 2)) tNoPart) (gName 3))
    (tSeq (tAsg (tSl (rSlA K) (tVar 1) (tPart (tVar 2)) tNoPart) (gName 4))
    (tSeq (tAsg (tOp xAdd (tC (.int 64)) (tOp xMul (tC (.int 2)) (tOp xAdd (tCB (rLenS K) (tCons (tVar 3) tNil)) (tCB (rLenS K) (tCons (tVar 4) tNil))))) (gName 5))
    (tSeq (tAsg (tCall (sp_value_within K 45) [] E0 (tCons (tVar 3) (tCons (tVar 5) tNil))) (gName 6))
    (tSeq (tIfS (tTest (tOp xIsN (tVar 6) (tC .non))) (tRet (tC .non)) tNext)
    (tSeq (tAsg (tCall (sp_value_within K 45) [] E0 (tCons (tVar 4) (tCons (tVar 5) tNil))) (gName 7))
    (tRet (tIf (tTest (tOp xIsN (tVar 7) (tC .non))) (tC .non) (tOp xSub (tVar 6) (tVar 7))))))))) { nx := fun _ H' => Q .non H', rt := Q } [some (.ref a), some (.ref b), some (.int (j : Int)), none, none, none, none, none, z8, z9] H1 := by
    intro j z8 z9 H1 e1 he hd hj
    refine q_asgR (er_fromT (n := j) (ev_var rfl) (ex_t e1 ha) (ev_var rfl)) fun v H2 e2 ⟨q, hv, g2⟩ => ?_
    subst hv
    refine q_asgR (er_fromT (n := j) (ev_var rfl) (ex_t (e1.trans e2) hb) (ev_var rfl)) fun v H3 e3 ⟨q', hv, g3⟩ => ?_
    subst hv
    have e13 := e1.trans (e2.trans e3)
    have n1 : NumV K H3 (.ref q) (ofL (t.toL.drop j)) := NumV.mk (ex_t e3 g2) (terms_items ((it1.ex (fun x => (termI x).mono) e13).drop j))
    have n2 : NumV K H3 (.ref q') (ofL (u.toL.drop j)) := NumV.mk g3 (terms_items ((it2.ex (fun x => (termI x).mono) e13).drop j))
    have b1 : (xs.drop j).length = (t.toL.drop j).length := by rw [List.length_drop, List.length_drop, lx]
    have b2 : (ys.drop j).length = (u.toL.drop j).length := by rw [List.length_drop, List.length_drop, ly]
    have d1 : (t.toL.drop j).length ≤ 20000 := by rw [List.length_drop]; omega
    have d2 : (u.toL.drop j).length ≤ 20000 := by rw [List.length_drop]; omega
    generalize hB : 64 + 2 * ((t.toL.drop j).length + (u.toL.drop j).length) = B at *
    refine q_asg (v := .int (B : Int)) (ev_is (ev_add ev_c (ev_mul ev_c (ev_add (ev_lenT (ev_var rfl) (ex_t e3 g2)) (ev_lenT (ev_var rfl) g3)) (.inl (by decide)))) (by rw [b1, b2, ← hB]; congr 1)) fun H4 e4 => ?_
    have nn1 := nn_of_can (can_drop ht j) (Nat.lt_of_le_of_lt (size_drop t j) (by omega))
    have nn2 := nn_of_can (can_drop hu j) (Nat.lt_of_le_of_lt (size_drop u j) (by omega))
    have hd1 := height_drop t j
    have hd2 := height_drop u j
    refine q_asgR (R := fun v _ => v = optV ((ofL (t.toL.drop j)).within B)) (er_call2 (R1 := fun v H => NumV K H v (ofL (t.toL.drop j))) (R2 := fun v _ => v = .int (B : Int)) (er_var rfl fun H5 e5 => n1.ex (e4.trans e5)) numT.mono (er_is (ev_var rfl)) monoC fun v w H5 e5 k1 k2 => ⟨_, B, k1, k2, nn1, by omega, by omega, by rw [toL_ofL]; omega, rfl⟩) fun v H5 e5 hv => ?_
    subst hv
    have e15 := e13.trans (e4.trans e5)
    cases hw1 : (ofL (t.toL.drop j)).within B with
    | none =>
      refine q_when (b := true) (et_test (ev_is (ev_isN (ev_var rfl)) rfl)) (fun _ H6 e6 => ?_) (fun h => by cases h)
      exact s_ret ev_c fun H7 e7 => k _ _ (e15.trans (e6.trans e7)) (.inl ⟨rfl, far_of_none ht hu he hd (.inl (by rw [hB]; exact hw1))⟩)
    | some hi =>
      refine q_when (b := false) (et_test (ev_is (ev_isN (ev_var rfl)) rfl)) (fun h => by cases h) (fun _ H6 e6 => ?_)
      refine q_asgR (R := fun v _ => v = optV ((ofL (u.toL.drop j)).within B)) (er_call2 (R1 := fun v H => NumV K H v (ofL (u.toL.drop j))) (R2 := fun v _ => v = .int (B : Int)) (er_var rfl fun H7 e7 => n2.ex (e4.trans (e5.trans (e6.trans e7)))) numT.mono (er_is (ev_var rfl)) monoC fun v w H7 e7 k1 k2 => ⟨_, B, k1, k2, nn2, by omega, by omega, by rw [toL_ofL]; omega, rfl⟩) fun v H7 e7 hv => ?_
      subst hv
      have e17 := e15.trans (e6.trans e7)
      cases hw2 : (ofL (u.toL.drop j)).within B with
      | none =>
        refine s_ret (v := .non) (ev_if (b := true) (et_test (ev_is (ev_isN (ev_var rfl)) rfl)) (fun _ => ev_c) (fun h => by cases h)) fun H8 e8 => k _ _ (e17.trans e8) (.inl ⟨rfl, far_of_none ht hu he hd (.inr (by rw [hB]; exact hw2))⟩)
      | some lo =>
        have v1 := within_val _ _ _ hw1
        have v2 := within_val _ _ _ hw2
        refine s_ret (v := .int (hi - lo)) (ev_if (b := false) (et_test (ev_is (ev_isN (ev_var rfl)) rfl)) (fun h => by cases h) (fun _ => ev_sub (ev_var rfl) (ev_var rfl))) fun H8 e8 => k _ _ (e17.trans e8) (.inr ?_)
        rw [v1, v2, val_cut t j, val_cut u j, he]
        congr 1
        omega
  refine q_asg ev_c fun H1 e1 => ?_
  refine q_forZ (i := 8) (j := 9) (pi := 0) (pj := 1) (n := min xs.length ys.length) rfl rfl (ex_t e1 ha) (ex_t e1 hb) rfl (fun i σ H5 => ∃ z8 z9, σ = [some (.ref a), some (.ref b), some (.int (i : Int)), none, none, none, none, none, z8, z9] ∧ Ex H1 H5 ∧ t.toL.take i = u.toL.take i) ⟨none, none, rfl, Ex.refl _, rfl⟩ (fun m σ' H' ⟨_, _, _, e, _⟩ => e) ?_ ?_
  · rintro i x' y' σ H5 hi hx' hy' ⟨z8, z9, rfl, e5, hp⟩ H6 e6
    have e46 := e1.trans (e5.trans e6)
    obtain ⟨⟨s, e⟩, g1, g2⟩ := (it1.ex (fun x => (termI x).mono) e46).of_at hx'
    obtain ⟨⟨s', e'⟩, g3, g4⟩ := (it2.ex (fun x => (termI x).mono) e46).of_at hy'
    have m1 := mem_size (List.mem_of_getElem? g1)
    have m1' : e.size < t.size ∧ e.height < t.height := m1
    refine q_when (b := !decide ((s, e) = (s', e'))) (et_test (ev_neTm rfl rfl g2 g4 (by show e.height ≤ 46; omega))) (fun hd H7 e7 => ?_) (fun hd H7 e7 => ?_)
    · have hdne : (s, e) ≠ (s', e') := of_decide_eq_false ((Bool.not_eq_true' _).mp hd)
      unfold tBreak
      dsimp only
      exact rest i _ _ H7 (e46.trans e7) hp (fun x y k1 k2 => by rw [g1] at k1; rw [g3] at k2; cases k1; cases k2; exact hdne) (by omega)
    · have hdeq : (s, e) = (s', e') := of_decide_eq_true (by rw [Bool.not_eq_false'] at hd; exact hd)
      refine s_aug (a := (i : Int)) (b := 1) rfl ev_c fun H8 e8 => ⟨_, _, rfl, e5.trans (e6.trans (e7.trans e8)), ?_⟩
      rw [take_snoc g1, take_snoc g3, hp, hdeq]
  · rintro σ H5 ⟨z8, z9, rfl, e5, hp⟩
    exact rest _ _ _ H5 (e1.trans e5) hp (fun x y k1 k2 => by
      have := (List.getElem?_eq_some_iff.mp k1).1
      have := (List.getElem?_eq_some_iff.mp k2).1
      omega) (by omega)
end Sk

set_option Elab.async false
set_option linter.all false
set_option maxRecDepth 100000
set_option maxHeartbeats 2000000
namespace Sk
open PySem L2 Evl
section
variable {K : PySem.W.Frag} {σ : L2.St} {H : Hp} {te : TE} {ta : TA} {g : TG} {vs : List Nat}
theorem er_lcR {R : Nat → VP} {n : Int} (hsrc : EvA ta σ H [.int n]) (hn : 0 ≤ n ∧ n ≤ 90000) (m : ∀ i, MonoT (R i))
    (hb : ∀ (i : Nat) H1, (i : Int) < n → Ex H H1 → ∀ Qk : VK, (∀ v H2, Ex H1 H2 → R i v H2 → Qk v H2) → g (.int (i : Int)) (wipe σ vs) H1 fun σ2 H2 => wipe σ2 vs = wipe σ vs ∧ te σ2 H2 Qk) :
    ER (tLc (iRng1 ta) g tYes te vs) σ H (fun v H2 => ∃ p ys, v = .ref p ∧ H2 p = some (.lst ys) ∧ ys.length = n.toNat ∧ ∀ (j : Nat) (y : V), ys[j]? = some y → R j y H2) := fun H0 e0 Q q => hsrc H0 e0 _ fun H1 e1 => ⟨n, rfl, by omega, by omega, fun Dl hD =>
  lc_range (lo := 0) (n := n.toNat) (Made H1 Dl R) ⟨hD, Ex.new hD, [], upd_same, rfl, fun j y h => by simp at h⟩
    (fun i H' hi M => by
      have hi' : (i : Int) < n := by omega
      rw [Int.zero_add]
      exact hb i H' hi' ((e0.trans e1).trans M.2.1) _ fun y H2 e2 r => M.turn m (by omega) e2 r)
    (fun H' M => by
      obtain ⟨h1, h2, ys, h3, h4, h5⟩ := M
      exact q _ H' (e1.trans h2) ⟨Dl, ys, rfl, h3, h4, h5⟩)⟩
end
section
variable {K : PySem.W.Frag} {σ : L2.St} {H : Hp} {tl : TE} {g : TG} {D : Ends} {tz tu : TS}
theorem q_forTR {S : List V → Prop} (h : ER tl σ H (fun v H2 => ∃ p xs, v = .ref p ∧ H2 p = some (.tup xs) ∧ S xs)) (k : ∀ p xs H1, Ex H H1 → H1 p = some (.tup xs) → S xs → tSeq (tFor (iTup K (tC (.ref p))) g tu) tz D σ H1) : tSeq (tFor (iTup K tl) g tu) tz D σ H :=
  h H (Ex.refl H) _ fun v H1 e ⟨p, xs, hv, hp, hS⟩ => by
    subst hv
    exact k p xs H1 e hp hS
end
section
theorem ItemsR.mapI {α β : Type} {R : β → VP} {f : α → β} {l : List α} {ys : List V} {H : Hp} (h : ItemsR (fun a => R (f a)) l ys H) : ItemsR R (l.map f) ys H :=
  ⟨by rw [List.length_map]; exact h.1, fun i y b h1 h2 => by
    rw [List.getElem?_map] at h2
    cases hq : l[i]? with
    | none => rw [hq] at h2; cases h2
    | some a => rw [hq] at h2; cases h2; exact h.2 i y a h1 hq⟩
end
end Sk

set_option Elab.async false
set_option linter.all false
set_option maxRecDepth 100000
set_option maxHeartbeats 1000000
namespace Sk
open PySem L2 Evl
/-! ### terms_at -/
/-- the value of a list of terms, in any order -/
def sumT (l : List (Int × T)) : Int := (l.map fun x => x.1 * 2 ^ x.2.val.toNat).sum
theorem sumT_nil : sumT [] = 0 := rfl
theorem sumT_cons (x : Int × T) (l : List (Int × T)) : sumT (x :: l) = x.1 * 2 ^ x.2.val.toNat + sumT l := by unfold sumT; rw [List.map_cons, List.sum_cons]
theorem sumT_app (l l' : List (Int × T)) : sumT (l ++ l') = sumT l + sumT l' := by unfold sumT; rw [List.map_append, List.sum_append]
theorem sumT_rev (l : List (Int × T)) : sumT l.reverse = sumT l := by unfold sumT; rw [List.map_reverse, List.sum_reverse]
theorem sumT_ofL (l : List (Int × T)) : (ofL l).val = sumT l := val_ofL l
/-- how great an exponent may become -/
def Near (e x : T) : Prop := x.size ≤ e.size + 40 * (18 + 3 * e.toL.length) ∧ x.height ≤ max e.height 6
theorem Near.refl (e : T) : Near e e := ⟨Nat.le_add_right _ _, Nat.le_max_left _ _⟩
structure TermsAt (e : T) (c : Int) (l : List (Int × T)) : Prop where
  len : l.length = (naf c 0).length
  it : ∀ (i : Nat) (s : Int) (p : Nat) (x : Int × T), (naf c 0)[i]? = some (s, p) → l[i]? = some x → x.1 = s ∧ x.2.can ∧ x.2.val = e.val + (p : Int) ∧ Near e x.2
theorem TermsAt.get {e : T} {c : Int} {l : List (Int × T)} (h : TermsAt e c l) {i : Nat} {x : Int × T} (hx : l[i]? = some x) : ∃ s p, (naf c 0)[i]? = some (s, p) ∧ x.1 = s ∧ x.2.can ∧ x.2.val = e.val + (p : Int) ∧ Near e x.2 := by
  have hi := (List.getElem?_eq_some_iff.mp hx).1
  rw [h.len] at hi
  have hq' : (naf c 0)[i]? = some ((naf c 0)[i].1, (naf c 0)[i].2) := List.getElem?_eq_getElem hi
  exact ⟨_, _, hq', h.it i _ _ x hq' hx⟩
theorem TermsAt.sum {e : T} {c : Int} {l : List (Int × T)} (h : TermsAt e c l) (h0 : 0 ≤ e.val) : sumT l = c * 2 ^ e.val.toNat := by
  have h1 := naf_sum c.natAbs c (Nat.le_refl _) e.val.toNat
  have key : ∀ (a : List (Int × Nat)) (b : List (Int × T)), b.length = a.length → (∀ (i : Nat) (s : Int) (p : Nat) (x : Int × T), a[i]? = some (s, p) → b[i]? = some x → x.1 = s ∧ x.2.val = e.val + (p : Int)) → sumT b = sumP a * 2 ^ e.val.toNat := by
    intro a
    induction a with
    | nil => intro b hb _; rw [List.length_eq_zero_iff.mp hb]; simp [sumT, sumP]
    | cons y r ih =>
      intro b hb hk
      cases b with
      | nil => cases hb
      | cons x b =>
        obtain ⟨s, p⟩ := y
        obtain ⟨k1, k2⟩ := hk 0 s p x rfl rfl
        rw [sumT_cons, ih b (by simpa using hb) (fun i s p x h1 h2 => hk (i + 1) s p x (by simpa using h1) (by simpa using h2)), k1, k2, sumP, Int.add_mul]
        congr 1
        have : (e.val + (p : Int)).toNat = p + e.val.toNat := by omega
        rw [this, Int.pow_add, Int.mul_assoc]
  have h2 := key (naf c 0) l h.len (fun i s p x h1 h2 => ⟨(h.it i s p x h1 h2).1, (h.it i s p x h1 h2).2.2.1⟩)
  rw [h2]
  congr 1
  have h3 := naf_sum c.natAbs c (Nat.le_refl _) 0
  rw [h3, Int.pow_zero, Int.mul_one]
theorem TermsAt.gap {e : T} {c : Int} {l : List (Int × T)} (h : TermsAt e c l) : l.Pairwise (fun x y => x.2.val + 2 ≤ y.2.val) := by
  rw [List.pairwise_iff_getElem]
  intro i j hi hj hij
  obtain ⟨s, p, g1, _, _, g2, _⟩ := h.get (List.getElem?_eq_getElem hi)
  obtain ⟨s', p', k1, _, _, k2, _⟩ := h.get (List.getElem?_eq_getElem hj)
  have := List.pairwise_iff_getElem.mp (naf_gap c.natAbs c (Nat.le_refl _) 0) i j (by rw [← h.len]; exact hi) (by rw [← h.len]; exact hj) hij
  rw [(List.getElem?_eq_some_iff.mp g1).2, (List.getElem?_eq_some_iff.mp k1).2] at this
  have h5 : p + 2 ≤ p' := this
  rw [g2, k2]
  omega
theorem TermsAt.mem {e : T} {c : Int} {l : List (Int × T)} (h : TermsAt e c l) {x : Int × T} (hx : x ∈ l) : (x.1 = 1 ∨ x.1 = -1) ∧ x.2.can ∧ e.val ≤ x.2.val ∧ x.2.val ≤ e.val + (bl c.natAbs : Int) ∧ Near e x.2 := by
  obtain ⟨i, hi⟩ := List.mem_iff_getElem?.mp hx
  obtain ⟨s, p, g1, g2, g3, g4, g5⟩ := h.get hi
  have hm := List.mem_of_getElem? g1
  have h1 := naf_sign hm
  have h2 := naf_le (n := c) (m := bl c.natAbs) (Nat.le_of_lt (lt_bl _)) hm
  have h3 : p ≤ bl c.natAbs := h2
  exact ⟨by rw [g2]; exact h1, g3, by omega, by omega, g5⟩
/-- what is asked of an exponent -/
structure ExpOk (e : T) : Prop where
  can : e.can
  nn : 0 ≤ e.val
  ht : e.height ≤ 43
  sz : e.size < 80000
  ln : e.toL.length ≤ 800
theorem ExpOk.sub {e : T} (h : ExpOk e) : ∀ x ∈ e.toL, x.2.size < 90000 := fun x hx => by have := mem_size hx; have := h.sz; omega
def pTermsAt (K : PySem.W.Frag) : V → V → Hp → VP → Prop := fun x y H R => ∃ (e : T) (c : Int), NumV K H x e ∧ ExpOk e ∧ y = .int c ∧ c.natAbs ≤ 2 ^ 30000 ∧
  R = fun v H' => ∃ p ys l, v = .ref p ∧ H' p = some (.lst ys) ∧ ItemsR (TermI K) l ys H' ∧ TermsAt e c l
def sp_terms_at (K : PySem.W.Frag) : Sp := spF2 (pTermsAt K)
def t_terms_at (K : PySem.W.Frag) : TS := (tSeq (tIfS (tOr (tTest (tOp rEq (tVar 1) (tC (.int 1)))) (tTest (tOp rEq (tVar 1) (tUn xNeg (tC (.int 1)))))) (tRet (tLst (tCons (tTup (tCons (tVar 1) (tCons (tVar 0) tNil))) tNil))) tNext)
    (tRet (tLc (iList K (tCall (sp_signed_places K) [] E0 (tCons (tVar 1) tNil))) (gTup K 2 (gCons (gName 2) (gCons (gName 3) gNil))) tYes (tTup (tCons (tVar 2) (tCons (tCall (sp_plus_small K) [] E0 (tCons (tVar 0) (tCons (tVar 3) tNil))) tNil))) [2, 3])))
theorem naf_unit {c : Int} (h : c = 1 ∨ c = -1) : naf c 0 = [(c, 0)] := by
  rcases h with rfl | rfl
  · rw [naf_odd (by decide), show ((1 : Int) - (2 - 1 % 4)) / 2 = 0 by decide, naf_zero]; rfl
  · rw [naf_odd (by decide), show ((-1 : Int) - (2 - -1 % 4)) / 2 = 0 by decide, naf_zero]; rfl
theorem pure_terms_at {K : PySem.W.Frag} {vs : List V} {H : Hp} {Q : VK} {E : XK} (h : sp_terms_at K vs H Q E) : t_terms_at K { nx := fun _ H' => Q .non H', rt := Q } (start ["base", "value", "sign", "place"] vs) H := by
  obtain ⟨x, y, R, rfl, ⟨e, c, hx, hok, rfl, hc, rfl⟩, k⟩ := h
  refine q_when (b := decide (V.int c = V.int 1) || decide (V.int c = V.int (-1))) (et_or (et_test (ev_eq (ev_var rfl) ev_c rfl)) fun _ => et_test (ev_eq (ev_var rfl) (ev_neg ev_c) rfl)) (fun hb H1 e1 => ?_) (fun hb H1 e1 => ?_)
  · have hu : c = 1 ∨ c = -1 := by
      rw [Bool.or_eq_true, decide_eq_true_eq, decide_eq_true_eq] at hb
      rcases hb with h | h
      · exact .inl (V.int.inj h)
      · exact .inr (V.int.inj h)
    have hER : ER (tTup (tCons (tVar 1) (tCons (tVar 0) tNil))) (start ["base", "value", "sign", "place"] [x, .int c]) H1 (TermI K (c, e)) :=
      (er_tup (ea_two (R := fun v _ => v = .int c) (R' := fun v H2 => NumV K H2 v e) (er_is (ev_var rfl)) monoC (er_var rfl fun H2 e2 => hx.ex (e1.trans e2)) numT.mono) (fun vs Ha Hb e ⟨v, w, h1, h2, h3⟩ => ⟨v, w, h1, h2, h3.ex e⟩) (fun vs Ha ⟨v, w, h1, _⟩ => by rw [h1]; show 2 ≤ 100000; omega)).imp fun v H2 e2 ⟨p, vs, hv, hp, u, w, g1, g2, g3⟩ => ⟨p, w, hv, st_of (by rw [hp, g1, g2]), g3⟩
    refine s_retR (er_lst (RA := fun vs H2 => ∃ v, vs = [v] ∧ TermI K (c, e) v H2) (ea_one hER (termI _).mono) (fun vs Ha Hb e ⟨v, h1, h2⟩ => ⟨v, h1, (termI _).mono _ _ _ e h2⟩) (fun vs Ha ⟨v, h1, _⟩ => by rw [h1]; show 1 ≤ 100000; omega)) fun v H2 e2 ⟨p, vs, hv, hp0, hp, w, hw, hI⟩ => k v H2 (e1.trans e2) ⟨p, [w], [(c, e)], hv, by rw [hp, hw], ItemsR.snoc (l := []) (ys := []) .nil hI, ?_⟩
    refine ⟨by rw [naf_unit hu]; rfl, fun i s p x h1 h2 => ?_⟩
    rw [naf_unit hu] at h1
    cases i with
    | zero => simp at h1 h2; obtain ⟨rfl, rfl⟩ := h1; subst h2; exact ⟨rfl, hok.can, by simp, Near.refl e⟩
    | succ i => simp at h1
  · have hlen := naf_len 30000 c 0 hc
    refine s_retR ((er_lcI (R1 := PairI) (R2 := fun y : Int × Nat => fun v H => ∃ x : Int × T, TermI K x v H ∧ x.1 = y.1 ∧ x.2.can ∧ x.2.val = e.val + (y.2 : Int) ∧ Near e x.2) (l := naf c 0) ((er_call1 (R1 := fun v _ => v = .int c) (er_is (ev_var rfl)) monoC fun v H1 e hv => ⟨c, 30000, hv, by decide, hc, rfl⟩).imp fun v H2 e2 h => by
      obtain ⟨p, ys, hv, h1, h2⟩ := h
      exact ⟨p, ys, hv, sq_of h1, h2⟩) (fun a => (pairI a).mono) (fun a v Ha Hb e' ⟨x, h1, h2⟩ => ⟨x, termI x _ _ _ e' h1, h2⟩) (by omega) ?_)) fun v H2 e2 ⟨p, ys, hv, hp0, hp, hit⟩ => k v H2 (e1.trans e2) ?_
    · rintro i ⟨s, pl⟩ z H2 hi ⟨q, rfl, hq⟩ e2 Qk kk
      refine g_pair (st_of hq) ⟨rfl, ?_⟩
      have hpl := naf_le hc (List.mem_of_getElem? hi)
      have hpl' : pl ≤ 30000 := hpl
      have hln := hok.ln
      have hB : (pl : Int).natAbs ≤ 2 ^ 15 := by have h15 : (2 : Nat) ^ 15 = 32768 := (by decide); rw [h15, Int.natAbs_natCast]; omega
      refine (er_tup (ea_two (R := fun v _ => v = .int s) (R' := fun w H3 => ∃ u, NumV K H3 w u ∧ u.can ∧ u.val = e.val + (pl : Int) ∧ u.size ≤ e.size + 40 * (15 + 3 * e.toL.length + 3) ∧ u.height ≤ max e.height 6) (er_is (ev_var rfl)) monoC
        (er_call2 (R1 := fun v H => NumV K H v e) (R2 := fun v _ => v = .int (pl : Int)) (er_var rfl fun H3 e3 => hx.ex (e1.trans (e2.trans e3))) numT.mono (er_is (ev_var rfl)) monoC fun v w H3 e3 g1 g2 => ⟨e, (pl : Int), 15, g1, g2, hok.can, hok.ht, hok.sub, by omega, hB, rfl⟩)
        (fun v Ha Hb e ⟨u, h1, h2⟩ => ⟨u, h1.ex e, h2⟩)) (fun vs Ha Hb e ⟨v, w, h1, h2, u, h3, h4⟩ => ⟨v, w, h1, h2, u, h3.ex e, h4⟩) (fun vs Ha ⟨v, w, h1, _⟩ => by rw [h1]; show 2 ≤ 100000; omega)) H2 (Ex.refl _) _ fun v H3 e3 ⟨p, vs, hv, hp, v', w, g1, g2, u, g3, g4, g5, g6, g7⟩ => kk v H3 e3 ⟨(s, u), ⟨p, w, hv, st_of (by rw [hp, g1, g2]), g3⟩, rfl, g4, g5, (by show u.size ≤ e.size + 40 * (18 + 3 * e.toL.length); omega), g7⟩
    · have hch : ∀ (l : List (Int × Nat)) (ys : List V), ItemsR (fun y : Int × Nat => fun v H => ∃ x : Int × T, TermI K x v H ∧ x.1 = y.1 ∧ x.2.can ∧ x.2.val = e.val + (y.2 : Int) ∧ Near e x.2) l ys H2 → ∃ l' : List (Int × T), ItemsR (TermI K) l' ys H2 ∧ l'.length = l.length ∧ ∀ (i : Nat) (s : Int) (p : Nat) (x : Int × T), l[i]? = some (s, p) → l'[i]? = some x → x.1 = s ∧ x.2.can ∧ x.2.val = e.val + (p : Int) ∧ Near e x.2 := by
        intro l
        induction l with
        | nil => intro ys h; have := List.length_eq_zero_iff.mp h.1; subst this; exact ⟨[], .nil, rfl, fun i s p x h => by simp at h⟩
        | cons y r ih =>
          intro ys h
          cases ys with
          | nil => have := h.1; cases this
          | cons v ys =>
            obtain ⟨l', h1, h2, h3⟩ := ih ys ⟨by have := h.1; simpa using this, fun i z a g1 g2 => h.2 (i + 1) z a (by simpa using g1) (by simpa using g2)⟩
            obtain ⟨x, k1, k2, k3, k4, k5⟩ := h.2 0 v y rfl rfl
            refine ⟨x :: l', ⟨by rw [List.length_cons, List.length_cons, h1.1], fun i z a g1 g2 => ?_⟩, by rw [List.length_cons, List.length_cons, h2], fun i s p z g1 g2 => ?_⟩
            · cases i with
              | zero => simp at g1 g2; subst g1 g2; exact k1
              | succ i => exact h1.2 i z a (by simpa using g1) (by simpa using g2)
            · cases i with
              | zero => simp at g1 g2; subst g1 g2; exact ⟨k2, k3, k4, k5⟩
              | succ i => exact h3 i s p z (by simpa using g1) (by simpa using g2)
      obtain ⟨l', h1, h2, h3⟩ := hch _ _ hit
      exact ⟨p, ys, l', hv, hp, h1, ⟨h2, h3⟩⟩
end Sk

set_option Elab.async false
set_option linter.all false
set_option maxRecDepth 100000
set_option maxHeartbeats 1000000
namespace Sk
open PySem L2 Evl
/-! ### settled -/
def cntT (l : List (Int × T)) : Nat := (l.map fun x => x.1.natAbs).sum
theorem cntT_cons (x : Int × T) (l : List (Int × T)) : cntT (x :: l) = x.1.natAbs + cntT l := by unfold cntT; rw [List.map_cons, List.sum_cons]
theorem wt_le_abs : ∀ (k : Nat) (n : Int), n.natAbs ≤ k → wt n ≤ n.natAbs
  | 0, n, h => by
    have : n = 0 := by omega
    subst this; rw [wt_zero]; exact Nat.zero_le _
  | k + 1, n, h => by
    rcases Int.lt_trichotomy n 0 with q | q | q
    · have h1 := wt_le_abs k (n + 1) (by omega)
      have h2 := wt_pred (n + 1)
      have e : n + 1 - 1 = n := by omega
      rw [e] at h2
      omega
    · subst q; rw [wt_zero]; exact Nat.zero_le _
    · have h1 := wt_le_abs k (n - 1) (by omega)
      have h2 := wt_succ (n - 1)
      have e : n - 1 + 1 = n := by omega
      rw [e] at h2
      omega
structure RowOk (rw : List (Int × T)) (many : Nat) : Prop where
  ex : ∀ x ∈ rw, ExpOk x.2
  asc : rw.Pairwise (fun a b => a.2.val ≤ b.2.val)
  tsg : ∀ (i : Nat) (x : Int × T), many ≤ i → rw[i]? = some x → x.1 = 1 ∨ x.1 = -1
  tgap : (rw.drop many).Pairwise (fun a b => a.2.val + 2 ≤ b.2.val)
  cb : ∀ x ∈ rw, x.1.natAbs ≤ 1000
  len : rw.length ≤ 2000
  many_le : many ≤ rw.length
/-- what is found so far, the least first -/
structure Found (rw : List (Int × T)) (F : List (Int × T)) : Prop where
  it : ∀ x ∈ F, (x.1 = 1 ∨ x.1 = -1) ∧ x.2.can ∧ 0 ≤ x.2.val ∧ ∃ y ∈ rw, Near y.2 x.2
  gap : F.Pairwise (fun a b => a.2.val + 2 ≤ b.2.val)
def Settled (rw : List (Int × T)) (u : T) : Prop := u.can ∧ u.val = sumT rw ∧ u.toL.length ≤ cntT rw ∧ ∀ x ∈ u.toL, ∃ y ∈ rw, Near y.2 x.2
theorem found_done {rw F : List (Int × T)} (h : Found rw F) (hs : sumT F = sumT rw) (hc : F.length ≤ cntT rw) : Settled rw (ofL F.reverse) := by
  refine ⟨can_ofL (fun x hx => ?_) ?_, by rw [sumT_ofL, sumT_rev, hs], by rw [toL_ofL, List.length_reverse]; exact hc, fun x hx => ?_⟩
  · have := h.it x (List.mem_reverse.mp hx)
    exact ⟨this.1, this.2.2.1, this.2.1⟩
  · rw [List.pairwise_reverse]
    exact h.gap
  · rw [toL_ofL] at hx
    exact (h.it x (List.mem_reverse.mp hx)).2.2.2
def pSettled (K : PySem.W.Frag) : V → V → Hp → VP → Prop := fun x y H R => ∃ (p : Addr) (ys : List V) (rw : List (Int × T)) (many : Nat), x = .ref p ∧ H p = some (.lst ys) ∧ ItemsR (TermI K) rw ys H ∧ y = .int (many : Int) ∧ RowOk rw many ∧ cntT rw ≤ 50000 ∧
  R = fun v H' => ∃ u, NumV K H' v u ∧ Settled rw u
def sp_settled (K : PySem.W.Frag) : Sp := spF2 (pSettled K)
def t_settled (K : PySem.W.Frag) : TS := (tSeq (tAsg (tLst tNil) (gName 2))
    (tSeq (tAsg (tC (.int 0)) (gName 3))
    (tSeq (tWhile (tTest (tOp xLt (tVar 3) (tVar 1))) (tSeq (tAsg (tOp (rIxL K) (tVar 0) (tVar 3)) (gTup K 2 (gCons (gName 4) (gCons (gName 5) gNil))))
    (tSeq (tAug 3 (tC (.int 1)) (ipI fun i j => i + j))
    (tSeq (tWhile (tTest (tOp xLt (tVar 3) (tCB (rLenS K) (tCons (tVar 0) tNil)))) (tSeq (tAsg (tCall (sp_gap K) [] E0 (tCons (tOp (rIxT K) (tOp (rIxL K) (tVar 0) (tVar 3)) (tC (.int 1))) (tCons (tVar 5) tNil))) (gName 6))
    (tSeq (tIfS (tOr (tTest (tOp xIsN (tVar 6) (tC .non))) (tTest (tOp xGt (tVar 6) (tOp xAdd (tBits (tVar 4)) (tC (.int 1)))))) tBreak tNext)
    (tSeq (tAug 4 (tOp xShl (tOp (rIxT K) (tOp (rIxL K) (tVar 0) (tVar 3)) (tC (.int 0))) (tVar 6)) (ipI fun i j => i + j))
    (tAug 3 (tC (.int 1)) (ipI fun i j => i + j))))))
    (tDrop (tBM K "list" rExtend (tVar 2) (tCons (tCall (sp_terms_at K) [] E0 (tCons (tVar 5) (tCons (tVar 4) tNil))) tNil)))))))
    (tSeq (tDrop (tBM K "list" rExtend (tVar 2) (tCons (tSl (rSlL K) (tVar 0) (tPart (tVar 3)) tNoPart) tNil)))
    (tRet (tThen (tRevL K (tVar 2)) (kTup K)))))))
/-- xs.extend(e), e a list that was just made -/
theorem s_extR {K : PySem.W.Frag} {σ : L2.St} {H : Hp} {te tl : TE} {D : Ends} {R : List V → Hp → Prop} {l : Addr} {xs : List V} (hl : H l = some (.lst xs)) (hv : Ev tl σ H (.ref l)) (h : ER te σ H (fun v H2 => ∃ b zs, v = .ref b ∧ H2 b = some (.lst zs) ∧ R zs H2)) (hz : ∀ zs H2, R zs H2 → xs.length + zs.length ≤ 100000)
    (k : ∀ zs H1, Ex H H1 → R zs H1 → D.nx σ (upd H1 l (.lst (xs ++ zs)))) : tDrop (tBM K "list" rExtend tl (tCons te tNil)) D σ H := hv H (Ex.refl H) _ fun H1 e1 =>
  ⟨Or.inl ⟨rfl, xs, sq_of (e1 l _ hl)⟩, h H1 e1 _ fun v H2 e2 ⟨b, zs, hb, hz2, hR⟩ => ⟨l, b, xs, zs, rfl, by rw [hb], e2 l _ (e1 l _ hl), hz2, sz_of (hz zs H2 hR), k zs H2 (e1.trans e2) hR⟩⟩
def WSettled (K : PySem.W.Frag) (p lf : Addr) (rw : List (Int × T)) (many : Nat) (H0 : Hp) (m : Nat) (σ : L2.St) (H : Hp) : Prop := ∃ (at_ : Nat) (F : List (Int × T)) (fs ys : List V) (z4 z5 z6 : Option V),
  σ = [some (.ref p), some (.int (many : Int)), some (.ref lf), some (.int (at_ : Int)), z4, z5, z6] ∧ m = rw.length - at_ ∧ at_ ≤ rw.length ∧ H0 lf = none ∧ p ≠ lf ∧ Ex H0 H ∧ H lf = some (.lst fs) ∧ ItemsR (TermI K) F fs H ∧ H p = some (.lst ys) ∧ ItemsR (TermI K) rw ys H ∧
  Found rw F ∧ (∀ x ∈ F, ∀ z, rw[at_]? = some z → x.2.val + 2 ≤ z.2.val) ∧ sumT F + sumT (rw.drop at_) = sumT rw ∧ F.length + cntT (rw.drop at_) ≤ cntT rw
theorem drop_cons {α : Type} {l : List α} {i : Nat} {a : α} (h : l[i]? = some a) : l.drop i = a :: l.drop (i + 1) := by
  obtain ⟨g1, g2⟩ := List.getElem?_eq_some_iff.mp h
  rw [List.drop_eq_getElem_cons g1, g2]
theorem asc_at {rw : List (Int × T)} (h : rw.Pairwise (fun a b => a.2.val ≤ b.2.val)) {i j : Nat} {a b : Int × T} (hi : rw[i]? = some a) (hj : rw[j]? = some b) (hij : i ≤ j) : a.2.val ≤ b.2.val := by
  rcases Nat.lt_or_eq_of_le hij with q | q
  · obtain ⟨h1, h2⟩ := List.getElem?_eq_some_iff.mp hi
    obtain ⟨h3, h4⟩ := List.getElem?_eq_some_iff.mp hj
    have := List.pairwise_iff_getElem.mp h i j h1 h3 q
    rw [h2, h4] at this
    exact this
  · subst q; rw [hi] at hj; cases hj; exact Int.le_refl _
theorem pure_settled {K : PySem.W.Frag} {vs : List V} {H : Hp} {Q : VK} {E : XK} (h : sp_settled K vs H Q E) : t_settled K { nx := fun _ H' => Q .non H', rt := Q } (start ["row", "many", "found", "at", "value", "base", "step"] vs) H := by
  obtain ⟨x, y, R, rfl, ⟨p, ys0, rw, many, rfl, hp0, hit0, rfl, hok, hcnt, rfl⟩, k⟩ := h
  refine q_asgL (el_lst ea_nil (by decide)) fun lf H1 hlf e1 h1 => ?_
  have hplf : p ≠ lf := fun e => by rw [e, hlf] at hp0; cases hp0
  refine q_asg ev_c fun H2 e2 => ?_
  refine q_while' (WSettled K p lf rw many H) rw.length ⟨0, [], [], ys0, none, none, none, rfl, rfl, Nat.zero_le _, hlf, hplf, e1.trans e2, e2 lf _ h1, .nil, (e1.trans e2) p _ hp0, hit0.ex (fun x => (termI x).mono) (e1.trans e2), ⟨fun x hx => absurd hx List.not_mem_nil, List.Pairwise.nil⟩, fun x hx => absurd hx List.not_mem_nil, by rw [sumT_nil, List.drop_zero, Int.zero_add], by rw [List.drop_zero]; simp⟩ ?_
  rintro m σ' H' ⟨a0, F, fs, ys, z4, z5, z6, rfl, rfl, ha0, hlf0, hplf, e3, hf, hfi, hpy, hit, hF, hsep, hsum, hcn⟩
  have hyl : ys.length = rw.length := hit.1
  have hlen := hok.len
  refine ⟨decide ((a0 : Int) < (many : Int)), et_test (ev_lt (ev_var rfl) (ev_var rfl)), fun hb H4 e4 => ?_, fun hb H4 e4 => ?_⟩
  · have hlt : a0 < rw.length := by have := of_decide_eq_true hb; have := hok.many_le; omega
    obtain ⟨⟨c0, ex⟩, hget⟩ : ∃ a, rw[a0]? = some a := ⟨_, List.getElem?_eq_getElem hlt⟩
    have hexm : (c0, ex) ∈ rw := List.mem_of_getElem? hget
    have hex : ExpOk ex := hok.ex _ hexm
    obtain ⟨yv, hyv, q, w, hyq, hq, hw⟩ := hit.at hget
    subst hyq
    refine q_unpack2 (K := K) (R := fun v _ => v = .ref q) (er_is (ev_at (ev_var rfl) (ev_var rfl) (sq_of (e4 p _ hpy)) (atI_nat hyv))) fun v H5 e5 hv => ⟨q, .int c0, w, hv, ex_t (e4.trans e5) hq, ?_⟩
    refine q_aug (a := (a0 : Int)) (b := 1) rfl ev_c fun H6 e6 => ?_
    have e46 := e4.trans (e5.trans e6)
    -- what follows the cluster
    have after : ∀ (a1 : Nat) (c : Int) (z6 : Option V) (H7 : Hp), Ex H6 H7 → a0 < a1 → a1 ≤ rw.length → bl c.natAbs ≤ 12 * (a1 - a0) → c * 2 ^ ex.val.toNat + sumT (rw.drop a1) = sumT (rw.drop a0) → wt c + cntT (rw.drop a1) ≤ cntT (rw.drop a0) → (∀ z, rw[a1]? = some z → ex.val + (bl c.natAbs : Int) + 2 ≤ z.2.val) →
        tDrop (tBM K "list" rExtend (tVar 2) (tCons (tCall (sp_terms_at K) [] E0 (tCons (tVar 5) (tCons (tVar 4) tNil))) tNil)) { nx := fun σ2 H2 => ∃ m', m' < rw.length - a0 ∧ WSettled K p lf rw many H m' σ2 H2, rt := Q, bk := tSeq (tDrop (tBM K "list" rExtend (tVar 2) (tCons (tSl (rSlL K) (tVar 0) (tPart (tVar 3)) tNoPart) tNil))) (tRet (tThen (tRevL K (tVar 2)) (kTup K))) { nx := fun _ H' => Q .non H', rt := Q }, ct := fun σ2 H2 => ∃ m', m' < rw.length - a0 ∧ WSettled K p lf rw many H m' σ2 H2 }
          [some (.ref p), some (.int (many : Int)), some (.ref lf), some (.int (a1 : Int)), some (.int c), some w, z6] H7 := by
      intro a1 c z6 H7 e7 h01 h1l hbl hs hwt hnx
      have e47 : Ex H' H7 := e46.trans e7
      have hcb : c.natAbs ≤ 2 ^ 30000 := by
        have h1 := (bl_le_iff c.natAbs 30000).mp (by omega)
        exact Nat.le_of_lt h1
      refine s_extR (R := fun zs H2 => ∃ l, ItemsR (TermI K) l zs H2 ∧ TermsAt ex c l) (e47 lf _ hf) (ev_var rfl) ((er_call2 (R1 := fun v H => NumV K H v ex) (R2 := fun v _ => v = .int c) (er_var rfl fun H8 e8 => hw.ex (e47.trans e8)) numT.mono (er_is (ev_var rfl)) monoC fun v w H8 e8 g1 g2 => ⟨ex, c, g1, hex, g2, hcb, rfl⟩).imp fun v H8 e8 h => by
        obtain ⟨b, zs, l, g1, g3, g4, g5⟩ := h
        exact ⟨b, zs, g1, g3, l, g4, g5⟩) (fun zs H8 ⟨l, g1, g2⟩ => by
        have h1 := g1.1
        rw [g2.len] at h1
        have h2 := hfi.1
        have h3 : (naf c 0).length = wt c := rfl
        omega) fun zs H8 e8 ⟨l, g1, g2⟩ => ?_
      have e48 := e47.trans e8
      have t8 : TEx H8 (upd H8 lf (.lst (fs ++ zs))) := TEx.put (e48 lf _ hf)
      have hpu : (upd H8 lf (.lst (fs ++ zs))) p = some (.lst ys) := by rw [upd_ne hplf]; exact e48 p _ hpy
      refine ⟨rw.length - a1, by omega, a1, F ++ l, fs ++ zs, ys, _, _, _, rfl, rfl, h1l, hlf0, hplf, Ex.mut (e3.trans e48) hlf0, upd_same, (hfi.tex termI ((Ex.t e48).trans t8)).append (g1.tex termI t8), hpu, hit.tex termI ((Ex.t e48).trans t8), ⟨fun x hx => ?_, ?_⟩, fun x hx z hz => ?_, ?_, ?_⟩
      · rcases List.mem_append.mp hx with hx | hx
        · exact hF.it x hx
        · have := g2.mem hx
          exact ⟨this.1, this.2.1, by have := hex.nn; omega, (c0, ex), hexm, this.2.2.2.2⟩
      · refine List.pairwise_append.mpr ⟨hF.gap, g2.gap, fun x hx z hz => ?_⟩
        have h1 := hsep x hx (c0, ex) hget
        have h2 := (g2.mem hz).2.2.1
        have h1' : x.2.val + 2 ≤ ex.val := h1
        omega
      · rcases List.mem_append.mp hx with hx | hx
        · have h1 : x.2.val + 2 ≤ ex.val := hsep x hx (c0, ex) hget
          have h2 : ex.val ≤ z.2.val := asc_at hok.asc hget hz (by omega)
          omega
        · have h1 := (g2.mem hx).2.2.2.1
          have h2 := hnx z hz
          omega
      · rw [sumT_app, g2.sum hex.nn, Int.add_assoc, hs, hsum]
      · rw [List.length_append, g2.len]
        have h3 : (naf c 0).length = wt c := rfl
        omega
    -- the cluster
    refine q_while' (fun m σ H7 => ∃ (a1 : Nat) (c : Int) (z6 : Option V), σ = [some (.ref p), some (.int (many : Int)), some (.ref lf), some (.int (a1 : Int)), some (.int c), some w, z6] ∧ m = rw.length - a1 ∧ a0 < a1 ∧ a1 ≤ rw.length ∧ Ex H6 H7 ∧ bl c.natAbs ≤ 12 * (a1 - a0) ∧ c * 2 ^ ex.val.toNat + sumT (rw.drop a1) = sumT (rw.drop a0) ∧ wt c + cntT (rw.drop a1) ≤ cntT (rw.drop a0)) (rw.length - (a0 + 1))
      ⟨a0 + 1, c0, z6, rfl, rfl, Nat.lt_succ_self _, hlt, Ex.refl _, ?_, ?_, ?_⟩ ?_
    · have h1 : c0.natAbs ≤ 1000 := hok.cb _ hexm
      have h2 := (bl_le_iff c0.natAbs 12).mpr (Nat.lt_of_le_of_lt h1 (by decide))
      omega
    · rw [drop_cons hget, sumT_cons]
    · rw [drop_cons hget, cntT_cons]
      have := wt_le_abs _ c0 (Nat.le_refl _)
      show wt c0 + _ ≤ c0.natAbs + _
      omega
    rintro m σ H7 ⟨a1, c, z6, rfl, rfl, h01, h1l, e7, hbl, hs, hwt⟩
    have e47 : Ex H' H7 := e46.trans e7
    refine ⟨decide ((a1 : Int) < (ys.length : Int)), et_test (ev_lt (ev_var rfl) (ev_lenL (ev_var rfl) (sq_of (e47 p _ hpy)))), fun hb2 H8 e8 => ?_, fun hb2 H8 e8 => ?_⟩
    · have hlt1 : a1 < rw.length := by have := of_decide_eq_true hb2; omega
      obtain ⟨⟨c1, ey⟩, hget1⟩ : ∃ a, rw[a1]? = some a := ⟨_, List.getElem?_eq_getElem hlt1⟩
      have hm1 : (c1, ey) ∈ rw := List.mem_of_getElem? hget1
      have hey : ExpOk ey := hok.ex _ hm1
      obtain ⟨yv1, hyv1, q1, w1, hyq1, hq1, hw1⟩ := hit.at hget1
      subst hyq1
      have e48 := e47.trans e8
      have hle : ex.val ≤ ey.val := asc_at hok.asc hget hget1 (by omega)
      refine q_asgR (R := GapR ey.val ex.val) (er_call2 (R1 := fun v H => NumV K H v ey) (R2 := fun v H => NumV K H v ex) (er_ev (ev_atT (ev_at (ev_var rfl) (ev_var rfl) (sq_of (e48 p _ hpy)) (atI_nat hyv1)) ev_c (ex_t e48 hq1) (at_of (j := 1) rfl rfl)) fun H9 e9 => hw1.ex (e48.trans e9)) numT.mono (er_var rfl fun H9 e9 => hw.ex (e48.trans e9)) numT.mono fun v v' H9 e9 g1 g2 => ⟨ey, ex, g1, g2, hey.can, hex.can, by have := hey.ht; omega, by have := hex.ht; omega, by have := hey.sz; omega, by have := hex.sz; omega, by have := hey.ln; omega, by have := hex.ln; omega, rfl⟩) fun v H9 e9 hg => ?_
      have e79 := e8.trans e9
      rcases hg with ⟨rfl, hfar⟩ | rfl
      · refine q_when (b := true) (et_or (a := true) (b := false) (et_test (ev_is (ev_isN (ev_var rfl)) rfl)) (fun h => by cases h)) (fun _ H10 e10 => ?_) (fun h => by cases h)
        unfold tBreak
        dsimp only
        refine after a1 c _ H10 (e7.trans (e79.trans e10)) h01 h1l hbl hs hwt fun z hz => ?_
        rw [hget1] at hz
        cases hz
        have h64 : (30000 : Nat) ≤ 2 ^ 64 := by decide
        show ex.val + (bl c.natAbs : Int) + 2 ≤ ey.val
        omega
      · refine q_when (b := decide ((bl c.natAbs : Int) + 1 < ey.val - ex.val)) (et_is (et_or (a := false) (et_test (ev_is (ev_isN (ev_var rfl)) rfl)) fun _ => et_test (ev_gt (ev_var rfl) (ev_add (ev_is (ev_bits (ev_var rfl)) (by rw [intBits_abs])) ev_c))) (Bool.false_or _)) (fun hb3 H10 e10 => ?_) (fun hb3 H10 e10 => ?_)
        · have := of_decide_eq_true hb3
          unfold tBreak
          dsimp only
          refine after a1 c _ H10 (e7.trans (e79.trans e10)) h01 h1l hbl hs hwt fun z hz => ?_
          rw [hget1] at hz
          cases hz
          show ex.val + (bl c.natAbs : Int) + 2 ≤ ey.val
          omega
        · have hstep := of_decide_eq_false hb3
          have hc1 : c1.natAbs ≤ 1000 := hok.cb _ hm1
          have e410 := e48.trans (e9.trans e10)
          have hcp : CPow c1 (ey.val - ex.val) := ⟨by omega, by omega, Nat.lt_of_le_of_lt hc1 (by decide)⟩
          refine q_aug (a := c) (b := c1 * 2 ^ (ey.val - ex.val).toNat) rfl (ev_shl (ev_atT (ev_at (ev_var rfl) (ev_var rfl) (sq_of (e410 p _ hpy)) (atI_nat hyv1)) ev_c (ex_t e410 hq1) (at_of (j := 0) rfl rfl)) (ev_var rfl) hcp) fun H11 e11 => ?_
          refine s_aug (a := (a1 : Int)) (b := 1) rfl ev_c fun H12 e12 => ⟨rw.length - (a1 + 1), by omega, a1 + 1, c + c1 * 2 ^ (ey.val - ex.val).toNat, _, rfl, rfl, by omega, hlt1, e7.trans (e79.trans (e10.trans (e11.trans e12))), ?_, ?_, ?_⟩
          · refine Nat.le_trans ((bl_le_iff _ (bl c.natAbs + 12)).mpr ?_) (by omega)
            have h1 : c.natAbs < 2 ^ bl c.natAbs := (bl_le_iff _ _).mp (Nat.le_refl _)
            have h2 : 2 ^ (ey.val - ex.val).toNat ≤ 2 ^ (bl c.natAbs + 1) := Nat.pow_le_pow_right (by decide) (by omega)
            have h3 : (c1 * 2 ^ (ey.val - ex.val).toNat).natAbs ≤ 1000 * 2 ^ (bl c.natAbs + 1) := by
              rw [Int.natAbs_mul, Int.natAbs_pow]
              exact Nat.mul_le_mul hc1 h2
            have h4 := Int.natAbs_add_le c (c1 * 2 ^ (ey.val - ex.val).toNat)
            rw [Nat.pow_succ] at h3
            rw [Nat.pow_add]
            have h12 : (2 : Nat) ^ 12 = 4096 := by decide
            rw [h12]
            generalize 2 ^ bl c.natAbs = P at *
            omega
          · rw [← hs, drop_cons hget1, sumT_cons, Int.add_mul, Int.mul_assoc, ← Int.pow_add]
            have : (ey.val - ex.val).toNat + ex.val.toNat = ey.val.toNat := by have := hex.nn; omega
            rw [this]
            show c * 2 ^ ex.val.toNat + c1 * 2 ^ ey.val.toNat + _ = c * 2 ^ ex.val.toNat + (c1 * 2 ^ ey.val.toNat + _)
            omega
          · rw [drop_cons hget1, cntT_cons] at hwt
            have h1 := wt_add c (c1 * 2 ^ (ey.val - ex.val).toNat)
            have h2 : wt (c1 * 2 ^ (ey.val - ex.val).toNat) = wt c1 := by rw [Int.mul_comm]; exact wt_mul_pow c1 _
            have h3 := wt_le_abs _ c1 (Nat.le_refl _)
            have h4 : wt c + (c1.natAbs + cntT (rw.drop (a1 + 1))) ≤ cntT (rw.drop a0) := hwt
            omega
    · have hend : a1 = rw.length := by have := of_decide_eq_false hb2; omega
      refine after a1 c _ H8 (e7.trans e8) h01 h1l hbl hs hwt fun z hz => ?_
      have := (List.getElem?_eq_some_iff.mp hz).1
      omega
  · have hge : many ≤ a0 := by have := of_decide_eq_false hb; omega
    have hF' : Found rw (F ++ rw.drop a0) := by
      refine ⟨fun x hx => ?_, List.pairwise_append.mpr ⟨hF.gap, ?_, fun x hx z hz => ?_⟩⟩
      · rcases List.mem_append.mp hx with hx | hx
        · exact hF.it x hx
        · obtain ⟨i, hi⟩ := List.mem_iff_getElem?.mp hx
          rw [List.getElem?_drop] at hi
          have hm := List.mem_of_getElem? hi
          have hx' := hok.ex _ hm
          exact ⟨hok.tsg _ _ (by omega) hi, hx'.can, hx'.nn, x, hm, Near.refl _⟩
      · have h1 := hok.tgap
        have h2 : rw.drop a0 = (rw.drop many).drop (a0 - many) := by rw [List.drop_drop]; congr 1; omega
        rw [h2]
        exact h1.sublist (List.drop_sublist _ _)
      · obtain ⟨i, hi⟩ := List.mem_iff_getElem?.mp hz
        rw [List.getElem?_drop] at hi
        have hlt : a0 < rw.length := by have := (List.getElem?_eq_some_iff.mp hi).1; omega
        have h0 : rw[a0]? = some rw[a0] := List.getElem?_eq_getElem hlt
        have h1 := hsep x hx _ h0
        have h2 := asc_at hok.asc h0 hi (by omega)
        omega
    have hcF : (F ++ rw.drop a0).length ≤ cntT rw := by
      rw [List.length_append]
      have : ∀ l : List (Int × T), (∀ x ∈ l, x.1 = 1 ∨ x.1 = -1) → l.length = cntT l := by
        intro l
        induction l with
        | nil => intro _; rfl
        | cons a r ih =>
          intro h
          rw [cntT_cons, ← ih fun x hx => h x (List.mem_cons_of_mem _ hx), List.length_cons]
          rcases h a List.mem_cons_self with q | q <;> rw [q] <;> simp <;> omega
      have h1 := this (rw.drop a0) fun x hx => by
        obtain ⟨i, hi⟩ := List.mem_iff_getElem?.mp hx
        rw [List.getElem?_drop] at hi
        exact hok.tsg _ _ (by omega) hi
      omega
    have hcut : cutV ys (some (a0 : Int)) none = ys.drop a0 := by
      unfold cutV HT.sIx
      simp only
      rw [if_neg (by omega), Int.toNat_natCast, Nat.min_eq_left (by omega), List.take_of_length_le (by rw [List.length_drop]; exact Nat.le_refl _)]
    show tSeq _ _ _ _ _
    refine s_extR (D := { nx := tRet (tThen (tRevL K (tVar 2)) (kTup K)) { nx := fun _ H' => Q .non H', rt := Q }, rt := Q }) (R := fun zs H2 => zs = ys.drop a0) (e4 lf _ hf) (ev_var rfl) (fun H5 e5 Q' q' => el_sl (ev_var rfl) (eo_some (ev_var rfl)) eo_none (sq_of (e4 p _ hpy)) H5 e5 _ fun r H6 _ e6 h6 => q' _ _ e6 ⟨r, _, rfl, h6, hcut⟩) (fun zs H5 h => by
      rw [h, List.length_drop]
      have h1 := hfi.1
      rw [List.length_append] at hcF
      omega) fun zs H5 e5 hz => ?_
    subst hz
    have e45 := e4.trans e5
    have t5 : TEx H5 (upd H5 lf (.lst (fs ++ ys.drop a0))) := TEx.put (e45 lf _ hf)
    have hitF : ItemsR (TermI K) (F ++ rw.drop a0) (fs ++ ys.drop a0) (upd H5 lf (.lst (fs ++ ys.drop a0))) := (hfi.tex termI ((Ex.t e45).trans t5)).append ((hit.drop a0).tex termI ((Ex.t e45).trans t5))
    refine s_retR (er_tupleOf (R := fun ws H6 => ItemsR (TermI K) (F ++ rw.drop a0) ws.reverse H6) ((er_revL (R := fun ws H6 => ItemsR (TermI K) (F ++ rw.drop a0) ws H6) (er_ev (ev_var rfl) fun H6 e6 => ⟨lf, _, rfl, sq_of (e6 lf _ upd_same), hitF.ex (fun x => (termI x).mono) e6⟩) (fun ws Ha Hb e h => h.ex (fun x => (termI x).mono) e)).imp fun v H6 e6 ⟨q, ws, g1, g2, g3⟩ => ⟨q, _, g1, g2, by rw [List.reverse_reverse]; exact g3⟩) (fun ws Ha Hb e h => h.ex (fun x => (termI x).mono) e)) fun v H6 e6 ⟨q, ws, hv, g1, g2⟩ => k v H6 ((Ex.mut (e3.trans e45) hlf0).trans e6) ⟨ofL (F ++ rw.drop a0).reverse, ?_, found_done hF' (by rw [sumT_app, hsum]) hcF⟩
    rw [hv]
    have := g2.rev
    rw [List.reverse_reverse] at this
    exact NumV.mk (st_of g1) (terms_items this)
end Sk

set_option Elab.async false
set_option linter.all false
set_option maxRecDepth 100000
set_option maxHeartbeats 1000000
namespace Sk
open PySem PySem.Spec PyProof.Rows HT L2 Evl
/-! ### t[::-1], t a tuple -/
theorem adjust_rev (n : Nat) : Builtin.Slice.sliceAdjust none none (-1) (n : Int) = ((n : Int) - 1, -1) := by
  unfold Builtin.Slice.sliceAdjust
  simp
theorem places_rev (n : Nat) : Builtin.Slice.slicePlaces ((n : Int) - 1) (-1) (-1) = n := by
  unfold Builtin.Slice.slicePlaces
  simp
  split <;> omega
theorem pick_rev (xs : Array Value) : ((List.range xs.size).filterMap fun (m : Nat) => xs[((xs.size : Int) - 1 + (m : Int) * (-1)).toNat]?).toArray = xs.toList.reverse.toArray := by
  congr 1
  rcases Nat.eq_zero_or_pos xs.size with h0 | h0
  · have : xs.toList = [] := List.eq_nil_of_length_eq_zero (by rw [Array.length_toList]; exact h0)
    rw [h0, this]; rfl
  have e : (fun (m : Nat) => xs[((xs.size : Int) - 1 + (m : Int) * (-1)).toNat]?) = fun m => some (xs[xs.size - 1 - m]'(by omega)) := by
    funext m
    have h1 : ((xs.size : Int) - 1 + (m : Int) * (-1)).toNat = xs.size - 1 - m := by omega
    rw [h1, Array.getElem?_eq_getElem (by omega)]
  rw [e]
  have e2 : (List.range xs.size).filterMap (fun m => some (xs[xs.size - 1 - m]'(by omega))) = (List.range xs.size).map (fun m => xs[xs.size - 1 - m]'(by omega)) := by
    rw [← List.filterMap_eq_map]; rfl
  rw [e2]
  apply List.ext_getElem?
  intro i
  rw [List.getElem?_map]
  rcases Nat.lt_or_ge i xs.size with h | h
  · rw [List.getElem?_range h, List.getElem?_reverse (by simpa using h), Option.map_some, Array.length_toList, Array.getElem?_toList, Array.getElem?_eq_getElem (by omega)]
  · rw [List.getElem?_eq_none (by rw [List.length_range]; exact h), List.getElem?_eq_none (by rw [List.length_reverse]; simpa using h)]
    rfl
section
variable {prog : Program} {w : World} {A : Around} {E : Value → Shared → Prop} {s : Shared}
theorem sliceApplied_rev {sl : Addr} {vs : Value} {n : Nat} {Q : Int × Int × Nat → Shared → Prop} (hs : s.heap.IsSliceOf sl .none .none vs) (ps : IsPart vs (some (-1)))
    (h : Q ((n : Int) - 1, -1, n) s) : wpAny (model prog w) A (Builtin.Slice.sliceApplied (.ref sl) (pure (n : Int))) Q E s := by
  obtain ⟨os, hos, hcs, hds⟩ := id hs
  unfold Builtin.Slice.sliceApplied Builtin.Slice.sliceFields
  refine wpAny_bind (wpAny_bind (wpAny_field hos hds (x := .none) rfl (wpAny_bind (wpAny_field hos hds (x := .none) rfl (wpAny_bind (wpAny_field hos hds (x := vs) rfl (wpAny_pure ?_)))))))
  refine wpAny_bind (slicePart_ ps ?_)
  show wpAny _ _ (if ((-1 : Int) == 0) = true then _ else _) _ _ s
  rw [if_neg (by decide)]
  refine wpAny_bind (slicePart_ .none (wpAny_bind (slicePart_ .none (wpAny_bind (wpAny_pure ?_)))))
  show wpAny _ _ (match Builtin.Slice.sliceAdjust none none (-1) (n : Int) with | (lo, hi) => pure (lo, (-1 : Int), Builtin.Slice.slicePlaces lo hi (-1))) _ _ s
  rw [adjust_rev n]
  show wpAny _ _ (pure ((n : Int) - 1, (-1 : Int), Builtin.Slice.slicePlaces ((n : Int) - 1) (-1) (-1))) _ _ s
  rw [places_rev]
  exact wpAny_pure h
theorem getItem_tuple_rev {t sl : Addr} {items : Array Value} {vs : Value} {Q : Value → Shared → Prop} (ht : IsTup s.heap t items) (hs : s.heap.IsSliceOf sl .none .none vs) (ps : IsPart vs (some (-1)))
    (h : Q (.ref s.heap.objs.size) { s with heap := s.heap.push { cls := .type "tuple", data := .seq items.toList.reverse.toArray } })
    (hsz : items.size ≤ sizeLine) : wpAny (model prog w) A (getItem (.ref t) (.ref sl)) Q E s := by
  have htake : sizeOk (.seq items.toList.reverse.toArray) := by
    show items.toList.reverse.toArray.size ≤ sizeLine
    rw [List.size_toArray, List.length_reverse, Array.length_toList]
    exact hsz
  obtain ⟨os, hos, hcs, hds⟩ := id hs
  have hTs : s.TypeIs (.ref sl) "slice" := ⟨os, hos, hcs⟩
  unfold getItem
  try with_reducible refine wpAny_holding ?_
  first | refine wpAny_bind (wpAny_pure ?_) | skip
  refine wpAny_bind (wpAny_sequenceKey ht.typeIs (by decide) ?_)
  refine wpAny_bind (wpAny_callSpecial?_slot (name := Str.ofString "__getitem__") ht.typeIs PyProof.Rows.slot_tuple_getitem
    (wpAny_call_entry PyProof.Rows.slot_tuple_getitem ht.typeIs entry_tuple_getitem ?_ (args_tuple_getitem _ _)))
  show wpAny _ _ (Builtin.Tuple.tupleItemsOf (.ref t) >>= _) _ _ s
  refine wpAny_bind (tupleItemsOf_ ht ?_)
  refine wpAny_bind (wpAny_typeOf hTs ?_)
  rw [if_pos (by decide)]
  refine wpAny_bind (sliceApplied_rev hs ps ?_)
  have hno : ¬ ((((items.size : Int) - 1) == 0 && (-1 : Int) == 1 && items.size == items.size) = true) := by
    intro q
    rw [Bool.and_eq_true, Bool.and_eq_true] at q
    exact absurd q.1.2 (by decide)
  show wpAny _ _ (if (((items.size : Int) - 1) == 0 && (-1 : Int) == 1 && items.size == items.size) = true then _ else _) _ _ s
  rw [if_neg hno, pick_rev]
  first
    | exact wpAny_bind (m := Builtin.Tuple.tupleExact _) (wpAny_newObj_type (wpAny_pure ⟨_, rfl, wpAny_pure h⟩) htake)
    | exact wpAny_bind (m := Builtin.Tuple.tupleExact _) (wpAny_newObj_type (wpAny_bind (wpAny_pure (wpAny_pure ⟨_, rfl, wpAny_pure h⟩))) htake)
    | exact wpAny_bind (wpAny_bind (m := Builtin.Tuple.tupleExact _) (wpAny_newObj_type (wpAny_pure (wpAny_pure ⟨_, rfl, wpAny_pure h⟩)) htake))
    | exact wpAny_bind (wpAny_bind (m := Builtin.Tuple.tupleExact _) (wpAny_newObj_type (wpAny_pure ⟨_, rfl, wpAny_pure h⟩) htake))
end
def tRevT (K : PySem.W.Frag) (te : TE) : TE := fun σ H Q => te σ H fun x H1 => ∃ a xs, x = .ref a ∧ SqT K H1 a xs ∧ ∀ p, H1 p = none → Q (.ref p) (upd H1 p (.tup xs.reverse))
theorem pe_revT {X : Cx} {e : Expr} {te : TE} {k : Nat} {p1 p2 p3 pos : Pos} (he : PE X e te) : PE X (.Subscript e (.Slice none none (some (.UnaryOp .USub (.Constant (.int 1) k p1) p2)) p3) pos) (tRevT X.K te) := by
  refine ⟨fun pins s σ H Q I h => ?_⟩
  refine Subscript_ (thn (he.run pins s σ H _ I h) fun v s1 ⟨x, H1, I1, r1, q1⟩ => ?_)
  obtain ⟨a, xs, ex, hx, q⟩ := q1
  subst ex
  cases r1
  have hst : PO X (some (.UnaryOp .USub (.Constant (.int 1) k p1) p2)) (tPart (tUn (rU fun i => .int (-i)) (tC (.int 1)))) := po_some (pe_un un_neg pe_int)
  refine wpAny_Slice (thn (po_none.run pins s1 σ H1 (fun o H2 => o = none ∧ H2 = H1) I1 ⟨rfl, rfl⟩) fun vl s2 ⟨l, H2, I2, pl, el, e2⟩ => ?_)
  subst el e2
  refine thn (po_none.run pins s2 σ H2 (fun o H3 => o = none ∧ H3 = H2) I2 ⟨rfl, rfl⟩) fun vu s3 ⟨u, H3, I3, pu, eu, e3⟩ => ?_
  subst eu e3
  refine thn (hst.run pins s3 σ H3 (fun o H4 => o = some (-1) ∧ H4 = H3) I3 ⟨1, rfl, -1, rfl, rfl, rfl⟩) fun vs s4 ⟨o, H4, I4, ps, eo, e4⟩ => ?_
  subst eo e4
  cases pl
  cases pu
  have I5 : Inv X pins σ H4 { s4 with heap := s4.heap.push { cls := .type "slice", data := .fields #[.none, .none, vs] } } := I4.kept (t' := s4.toks) fun b ob q => Heap.get?_push_of_some _ q
  obtain ⟨its, r, ht, hz⟩ := I5.tuple hx
  have hlen := r.length
  show wpAny (model X.prog X.w) X.A (subscriptTail e (.Slice none none (some (.UnaryOp .USub (.Constant (.int 1) k p1) p2)) p3) (.ref a) (.ref s4.heap.objs.size)) (EP X pins σ Q) X.xe { s4 with heap := s4.heap.push { cls := .type "slice", data := .fields #[.none, .none, vs] } }
  refine tail_any (ops := [.ref a, .ref s4.heap.objs.size]) ht.typeIs (PyProof.Rows.slot_tuple_getitem.lookup) ?_ (by with_unfolding_all rfl)
  refine getItem_tuple_rev ht (Heap.IsSliceOf.new _ .none .none vs) ps ?_ (by rw [List.size_toArray]; omega)
  refine ⟨.ref _, _, I5.laid (t' := s4.toks) (o := .tup xs.reverse) (fun b ob q => Heap.get?_push_of_some _ q) (Nat.le_refl _) ?_, rfl, q _ (I5.hok.fresh (Nat.le_refl _))⟩
  exact ⟨by rw [List.length_reverse]; exact hz, _, r.reverse, _, Heap.get?_push_size _ rfl, rfl, 0, by simp⟩
/-- reversed -/
theorem er_revT {K : PySem.W.Frag} {σ : L2.St} {H : Hp} {te : TE} {R : List V → Hp → Prop} (h : ER te σ H (fun v H2 => ∃ p ys, v = .ref p ∧ SqT K H2 p ys ∧ R ys H2)) (m : MonoL R) : ER (tRevT K te) σ H (fun v H2 => ∃ p ys, v = .ref p ∧ SqT K H2 p ys.reverse ∧ R ys H2) := fun H1 e Q q =>
  h H1 e _ fun v H2 e2 ⟨p, ys, h1, h2, h3⟩ => ⟨p, ys, h1, h2, fun r hr => q _ _ (e2.trans (Ex.new hr)) ⟨r, ys, rfl, st_of upd_same, m ys _ _ (Ex.new hr) h3⟩⟩
end Sk

set_option Elab.async false
set_option linter.all false
set_option maxRecDepth 100000
set_option maxHeartbeats 2000000
namespace Sk
open PySem L2 Evl
/-! ### power_rows -/
inductive Rows : Nat → List (Nat × Nat × Nat) → Prop
  | one : Rows 1 []
  | cons {m n l : Nat} {rs : List (Nat × Nat × Nat)} : 1 < m → m ≤ 10000 → IsRow m n l → Rows (n - l) rs → Rows m ((m, n, l) :: rs)
def RowT (x : Nat × Nat × Nat) : VP := fun v H => ∃ q p, v = .ref q ∧ H q = some (.tup [.int (x.1 : Int), .ref p, .int (x.2.2 : Int)]) ∧ H p = some (.lst ((pows x.1 x.2.1).map V.int))
theorem rowT (x : Nat × Nat × Nat) : Mono (RowT x) := fun v H H' e ⟨q, p, h1, h2, h3⟩ => ⟨q, p, h1, e q _ h2, e p _ h3⟩
def pPowerRows : V → Hp → VP → Prop := fun x H R => ∃ m : Nat, x = .int (m : Int) ∧ 1 ≤ m ∧ m ≤ 10000 ∧ R = fun v H' => ∃ rs, Rows m rs ∧ ListR RowT rs v H'
def sp_power_rows (K : PySem.W.Frag) : Sp := spF1 pPowerRows
def t_power_rows (K : PySem.W.Frag) : TS := (tSeq (tAsg (tLst tNil) (gName 1))
    (tSeq (tWhile (tTest (tOp xGt (tVar 0) (tC (.int 1)))) (tSeq (tAsg (tCall (sp_power_row K) [] E0 (tCons (tVar 0) tNil)) (gTup K 2 (gCons (gName 2) (gCons (gName 3) gNil))))
    (tSeq (tDrop (tBM K "list" rAppend (tVar 1) (tCons (tTup (tCons (tVar 0) (tCons (tVar 2) (tCons (tVar 3) tNil)))) tNil)))
    (tAsg (tOp xSub (tCB (rLenS K) (tCons (tVar 2) tNil)) (tVar 3)) (gName 0)))))
    (tRet (tVar 1))))
def RowT' (l : Addr) (x : Nat × Nat × Nat) : VP := fun v H => ∃ q p, v = .ref q ∧ H q = some (.tup [.int (x.1 : Int), .ref p, .int (x.2.2 : Int)]) ∧ H p = some (.lst ((pows x.1 x.2.1).map V.int)) ∧ p ≠ l
def WRows (M : Nat) (l : Addr) (H0 : Hp) (w : Nat) (σ : L2.St) (H : Hp) : Prop := ∃ (m : Nat) (z2 z3 : Option V) (ys : List V) (acc : List (Nat × Nat × Nat)),
  σ = [some (.int (m : Int)), some (.ref l), z2, z3] ∧ w = m ∧ 1 ≤ m ∧ m ≤ 10000 ∧ H0 l = none ∧ Ex H0 H ∧ H l = some (.lst ys) ∧ ItemsR (RowT' l) acc ys H ∧ acc.length + m ≤ 10000 ∧ ∀ rs, Rows m rs → Rows M (acc ++ rs)
theorem pure_power_rows {K : PySem.W.Frag} {vs : List V} {H : Hp} {Q : VK} {E : XK} (h : sp_power_rows K vs H Q E) : t_power_rows K { nx := fun _ H' => Q .non H', rt := Q } (start ["m", "rows", "powers", "lead"] vs) H := by
  obtain ⟨x, R, rfl, ⟨M, rfl, hm1, hm2, rfl⟩, k⟩ := h
  refine q_asgL (el_lst ea_nil (by decide)) fun l H1 hl e1 h1 => ?_
  refine q_while' (WRows M l H) M ⟨M, none, none, [], [], rfl, rfl, hm1, hm2, hl, e1, h1, .nil, by simpa using hm2, fun rs h => h⟩ ?_
  rintro m σ' H' ⟨_, z2, z3, ys, acc, rfl, rfl, h1, h2, hl0, e2, h3, h4, h5, h6⟩
  refine ⟨_, et_test (ev_gt (ev_var rfl) ev_c), fun hb H2 e3 => ?_, fun hb H2 e3 => ?_⟩
  · have hm : 1 < m := by have := of_decide_eq_true hb; omega
    have h3' : H2 l = some (.lst ys) := e3 l _ h3
    refine q_unpack2 (er_call1 (R1 := fun v _ => v = .int (m : Int)) (R := PRow H2 m) (er_is (ev_var rfl)) monoC fun v H4 e4 hv => ⟨m, hv, h1, h2, fun v H' ⟨q, p, n, l, g1, g2, g3, g4, g5⟩ => ⟨q, p, n, l, g1, g2, g3, g4, fresh_back e4 g5⟩⟩) ?_
    rintro v H3 e4 ⟨q, p, n, lead, rfl, g2, g3, g4, g5⟩
    have hpl : p ≠ l := fun e => by rw [e, h3'] at g5; cases g5
    have hsh := g2.short hm
    have hlt := g2.1
    refine ⟨q, _, _, rfl, st_of g3, ?_⟩
    refine q_appU (ys := [.int (m : Int), .ref p, .int (lead : Int)]) (e4 l _ h3') (ev_var rfl) (eu_tup (ea_cons (ev_var rfl) (ea_cons (ev_var rfl) (ea_cons (ev_var rfl) ea_nil))) (by show 3 ≤ 100000; omega)) (by rw [h4.1]; omega) fun r H5 hr e5 h7 => ?_
    have e35 : Ex H' H5 := (e3.trans e4).trans e5
    have hup : ∀ a o, a ≠ l → H5 a = some o → upd H5 l (.lst (ys ++ [.ref r])) a = some o := fun a o ha h => by rw [upd_ne ha]; exact h
    have hrl : r ≠ l := fun e => by rw [e, e35 l _ h3] at h7; cases h7
    refine s_asg (ev_sub (ev_len (xs := (pows m n).map V.int) (ev_var rfl) (sq_of (hup p _ hpl (e5 p _ g4)))) (ev_var rfl)) fun H6 e6 => ?_
    refine ⟨n - lead, hsh, n - lead, some (.ref p), some (.int (lead : Int)), ys ++ [.ref r], acc ++ [(m, n, lead)], ?_, rfl, by omega, by omega, hl0, (Ex.mut (e2.trans e35) hl0).trans e6, e6 l _ upd_same, ?_, by rw [List.length_append]; show acc.length + 1 + (n - lead) ≤ 10000; omega, fun rs hrs => ?_⟩
    · have : (((pows m n).map V.int).length : Int) - (lead : Int) = ((n - lead : Nat) : Int) := by rw [List.length_map, pows_len]; omega
      rw [this] <;> rfl
    · refine ItemsR.snoc (⟨h4.1, fun i y a k1 k2 => ?_⟩) ⟨r, p, rfl, e6 r _ (hup r _ hrl h7), e6 p _ (hup p _ hpl (e5 p _ g4)), hpl⟩
      obtain ⟨q2, p2, j1, j2, j3, j4⟩ := h4.2 i y a k1 k2
      have hq2 : q2 ≠ l := fun e => by rw [e, h3] at j2; cases j2
      exact ⟨q2, p2, j1, e6 _ _ (hup q2 _ hq2 (e35 q2 _ j2)), e6 _ _ (hup p2 _ j4 (e35 p2 _ j3)), j4⟩
    · rw [List.append_assoc]
      exact h6 _ (Rows.cons hm h2 g2 hrs)
  · have hm : m = 1 := by have := of_decide_eq_false hb; omega
    subst hm
    refine s_ret (ev_var rfl) fun H4 e4 => k _ _ ((e2.trans e3).trans e4) ⟨acc, by have := h6 [] Rows.one; rwa [List.append_nil] at this, l, ys, rfl, (e3.trans e4) l _ h3, ?_⟩
    exact (ItemsR.imp h4 fun a y _ ⟨q, p, j1, j2, j3, _⟩ => (⟨q, p, j1, j2, j3⟩ : RowT a y H')).ex rowT (e3.trans e4)
/-! ### number_by_rows, power_by_rows -/
/-- a number in its form, short enough for the machine -/
structure T.ok (t : T) : Prop where
  can : t.can
  nn : t.nn
  len : t.toL.length < 100000
theorem can_toL : ∀ {t : T}, t.can → ∀ x ∈ t.toL, (x.1 = 1 ∨ x.1 = -1) ∧ 0 ≤ x.2.val ∧ x.2.can
  | .nil, _, x, hx => by cases hx
  | .cons s e r, h, x, hx => by
    rcases List.mem_cons.mp hx with rfl | hx
    · exact ⟨h.1.1, h.1.2.1, h.2.1⟩
    · exact can_toL h.2.2 x hx
theorem T.ok.mem {t : T} (h : t.ok) {x : Int × T} (hx : x ∈ t.toL) : (x.1 = 1 ∨ x.1 = -1) ∧ 0 ≤ x.2.val ∧ x.2.ok :=
  ⟨(can_toL h.can x hx).1, (can_toL h.can x hx).2.1, (can_toL h.can x hx).2.2, (nn_toL h.nn x hx).2, (nn_toL h.nn x hx).1.2.2.1⟩
theorem toT_ok {E : Nat} (hE : E ≤ 70000) {n : Int} (h : n.natAbs ≤ 2 ^ E) : (toT n).ok := ⟨toT_can n, toT_nn hE h, Nat.lt_of_le_of_lt (toT_len h) (by omega)⟩
/-- the modulus at a place of the rows -/
def modAt : List (Nat × Nat × Nat) → Nat
  | [] => 1
  | (m, _, _) :: _ => m
theorem Rows.mod {m : Nat} {rs : List (Nat × Nat × Nat)} (h : Rows m rs) : m = modAt rs := by cases h <;> rfl
def RowsOk (rs : List (Nat × Nat × Nat)) : Prop := Rows (modAt rs) rs
def pNum (K : PySem.W.Frag) (d : Nat) : V → V → V → Hp → VP → Prop := fun x y z H R => ∃ (t : T) (rs : List (Nat × Nat × Nat)) (i : Nat), NumV K H x t ∧ ListR RowT rs y H ∧ z = .int (i : Int) ∧ t.ok ∧ t.height < d ∧ d ≤ 45 ∧ i ≤ rs.length ∧ RowsOk (rs.drop i) ∧
  R = fun v _ => v = .int (t.val % (modAt (rs.drop i) : Int))
def pPow (K : PySem.W.Frag) (d : Nat) : V → V → V → Hp → VP → Prop := fun x y z H R => ∃ (e : T) (rs : List (Nat × Nat × Nat)) (i : Nat), NumV K H x e ∧ ListR RowT rs y H ∧ z = .int (i : Int) ∧ e.ok ∧ 0 ≤ e.val ∧ e.height < d ∧ d ≤ 44 ∧ i < rs.length ∧ RowsOk (rs.drop i) ∧
  R = fun v _ => v = .int ((2 ^ e.val.toNat % modAt (rs.drop i) : Nat) : Int)
def sp_number_by_rows (K : PySem.W.Frag) (d : Nat) : Sp := spF3 (pNum K d)
def sp_power_by_rows (K : PySem.W.Frag) (d : Nat) : Sp := spF3 (pPow K d)
def t_number_by_rows (K : PySem.W.Frag) (d : Nat) : TS := (tSeq (tIfS (tTest (tOp rEq (tVar 2) (tCB (rLenS K) (tCons (tVar 1) tNil)))) (tRet (tC (.int 0))) tNext)
    (tRet (tOp xMod (tCB (rSum K) (tCons (tLc (iTup K (tVar 0)) (gTup K 2 (gCons (gName 3) (gCons (gName 4) gNil))) tYes (tOp xMul (tVar 3) (tCall (sp_power_by_rows K d) [] E0 (tCons (tVar 4) (tCons (tVar 1) (tCons (tVar 2) tNil))))) [3, 4]) tNil)) (tOp (rIxT K) (tOp (rIxL K) (tVar 1) (tVar 2)) (tC (.int 0))))))
theorem sum_mod (m : Nat) : ∀ l : List (Int × T), (∀ x ∈ l, 0 ≤ x.2.val) → (l.map fun x => x.1 * ((2 ^ x.2.val.toNat % m : Nat) : Int)).sum % (m : Int) = (ofL l).val % (m : Int)
  | [], _ => rfl
  | (s, e) :: r, h => by
    have ih := sum_mod m r fun x hx => h x (List.mem_cons_of_mem _ hx)
    rw [List.map_cons, List.sum_cons, ofL, T.val, Int.add_emod, ih, Int.add_emod (s * 2 ^ e.val.toNat)]
    congr 2
    show s * ((2 ^ e.val.toNat % m : Nat) : Int) % (m : Int) = _
    rw [Int.natCast_emod, Int.mul_emod, Int.emod_emod, ← Int.mul_emod]
    norm_cast
theorem drop_at {α : Type} {l : List α} {i : Nat} {a : α} (h : l[i]? = some a) : l.drop i = a :: l.drop (i + 1) := by
  have hlt : i < l.length := (List.getElem?_eq_some_iff.mp h).1
  rw [List.drop_eq_getElem_cons hlt]
  congr 1
  exact (List.getElem?_eq_some_iff.mp h).2
theorem listRT {rs : List (Nat × Nat × Nat)} : Mono (ListR RowT rs) := fun v H H' e ⟨p, ys, h1, h2, h3⟩ => ⟨p, ys, h1, e p _ h2, h3.ex rowT e⟩
theorem atI_of {xs : List V} {i : Nat} {v : V} (h : xs[i]? = some v) : atI xs (i : Int) = some v := atI_nat h
theorem pure_number_by_rows {K : PySem.W.Frag} {d : Nat} {vs : List V} {H : Hp} {Q : VK} {E : XK} (h : sp_number_by_rows K (d + 1) vs H Q E) : t_number_by_rows K d { nx := fun _ H' => Q .non H', rt := Q } (start ["x", "rows", "at", "sign", "exponent"] vs) H := by
  obtain ⟨x, y, z, R, rfl, ⟨t, rs, i, hx, hr, rfl, hok, hh, hd, hi, hrs, rfl⟩, k⟩ := h
  obtain ⟨p, ys, rfl, hp, hys⟩ := _root_.id hr
  refine q_when (et_test (ev_eq (ev_var rfl) (ev_len (ev_var rfl) (sq_of hp)) rfl)) (fun hc H1 e1 => ?_) (fun hc H1 e1 => ?_)
  · have hc' : (i : Int) = (ys.length : Int) := V.int.inj (of_decide_eq_true hc)
    have : rs.drop i = [] := List.drop_eq_nil_of_le (by have := hys.1; omega)
    refine s_ret ev_c fun H2 e2 => k _ _ (e1.trans e2) ?_
    show V.int 0 = _
    rw [this]
    exact congrArg V.int (Int.emod_one _).symm
  · have hne : ¬ (i : Int) = (ys.length : Int) := fun e => (of_decide_eq_false hc) (by rw [e])
    have hlt : i < rs.length := by have := hys.1; omega
    obtain ⟨⟨m, n, l⟩, hrow⟩ : ∃ r, rs[i]? = some r := ⟨_, List.getElem?_eq_getElem hlt⟩
    obtain ⟨w, hw, q, pp, rfl, hq, hpp⟩ := hys.at hrow
    have hdrop := drop_at hrow
    rw [hdrop] at hrs
    have hm : 1 < m ∧ m ≤ 10000 := by cases hrs with | cons h1 h2 _ _ => exact ⟨h1, h2⟩
    obtain ⟨a, xs, rfl, hs, ht⟩ := hx.out
    have hit := items_terms ht
    refine s_ret (ev_mod (ev_sum (l := t.toL.map fun x => x.1 * ((2 ^ x.2.val.toNat % m : Nat) : Int)) ?_) (ev_atT (ev_at (ev_var rfl) (ev_var rfl) (sq_of (e1 p _ hp)) (atI_of hw)) ev_c (st_of (e1 q _ hq)) (at_of (j := 0) rfl rfl)) (by show (0 : Int) < (m : Int); omega)) fun H2 e2 => k _ _ (e1.trans e2) ?_
    · refine (er_lcIT (R1 := TermI K) (R2 := fun x => IntI (x.1 * ((2 ^ x.2.val.toNat % m : Nat) : Int))) (l := t.toL) (er_var rfl fun H2 e2 => ⟨a, xs, rfl, ex_t (e1.trans e2) hs, hit.ex (fun b => (termI b).mono) (e1.trans e2)⟩) (fun b => (termI b).mono) (fun a => intI _) hok.len ?_).imp fun v H1 e ⟨p, ys, h1, h2, h3, h4⟩ => ⟨p, ys, h1, sq_of h3, ⟨by rw [List.length_map]; exact h4.1, fun i y a g1 g2 => ?_⟩⟩
      · rintro j ⟨s, e⟩ x H2 hj ⟨q, w, rfl, hq2, hw2⟩ e2 Qk kk
        have hmem : (s, e) ∈ t.toL := List.mem_of_getElem? hj
        obtain ⟨hsg, hev, heok⟩ := hok.mem hmem
        have hhe := T.height_mem hmem
        have hhe' : e.height < t.height := hhe
        refine g_pair hq2 ⟨rfl, ?_⟩
        refine ev_mul (i := s) (j := ((2 ^ e.val.toNat % m : Nat) : Int)) (ev_var rfl) (ev_er (er_call3 (R1 := fun v H => NumV K H v e) (R2 := ListR RowT rs) (R3 := fun v _ => v = .int (i : Int)) (er_var rfl fun H1 e1 => hw2.ex e1) numT.mono (er_var rfl fun H3 e3 => listRT _ _ _ (e1.trans (e2.trans e3)) hr) listRT (er_is (ev_var rfl)) monoC fun v v' v'' H3 e3 g1 g2 g3 => ⟨e, rs, i, g1, g2, g3, heok, hev, by omega, by omega, hlt, by rw [hdrop]; exact hrs, by rw [hdrop] <;> rfl⟩)) (.inl (by rcases hsg with h | h <;> (have h' : s = _ := h; subst h'; decide))) H2 (Ex.refl _) _ fun H3 e3 => kk _ _ e3 rfl
      · rw [List.getElem?_map] at g2
        cases hq : t.toL[i]? with
        | none => rw [hq] at g2; cases g2
        | some z => rw [hq] at g2; cases g2; exact h4.2 i y z g1 hq
    · show V.int _ = V.int _
      rw [hdrop, sum_mod m t.toL fun x hx => (hok.mem hx).2.1, ofL_toL] <;> rfl
theorem q_unpack3 {K : PySem.W.Frag} {σ : L2.St} {H : Hp} {te : TE} {R : VP} {D : Ends} {tz : TS} {i j l : Nat} (h : ER te σ H R) (hR : ∀ v H1, Ex H H1 → R v H1 → ∃ a x y z, v = .ref a ∧ SqT K H1 a [x, y, z] ∧ tz D (((σ.set i (some x)).set j (some y)).set l (some z)) H1) :
    tSeq (tAsg te (gTup K 3 (gCons (gName i) (gCons (gName j) (gCons (gName l) gNil))))) tz D σ H := h H (Ex.refl H) _ fun v H1 e r => by
  obtain ⟨a, x, y, z, rfl, hs, q⟩ := hR v H1 e r
  exact g_trip (Q := fun σ' H' => tz D σ' H') hs q
def t_power_by_rows (K : PySem.W.Frag) (d : Nat) : TS := (tSeq (tAsg (tOp (rIxL K) (tVar 1) (tVar 2)) (gTup K 3 (gCons (gName 5) (gCons (gName 6) (gCons (gName 7) gNil)))))
    (tSeq (tAsg (tCall (sp_value_within K 45) [] E0 (tCons (tVar 0) (tCons (tBits (tVar 7)) tNil))) (gName 3))
    (tSeq (tIfS (tAnd (tTest (tOp xNotN (tVar 3) (tC .non))) (tTest (tOp xLt (tVar 3) (tVar 7)))) (tRet (tOp (rIxL K) (tVar 6) (tVar 3))) tNext)
    (tSeq (tAsg (tOp xSub (tCall (sp_number_by_rows K d) [] E0 (tCons (tVar 0) (tCons (tVar 1) (tCons (tOp xAdd (tVar 2) (tC (.int 1))) tNil)))) (tVar 7)) (gName 4))
    (tRet (tOp (rIxL K) (tVar 6) (tOp xAdd (tVar 7) (tOp xMod (tVar 4) (tOp xSub (tCB (rLenS K) (tCons (tVar 6) tNil)) (tVar 7))))))))))
theorem pows_at {m n i : Nat} (h : i < n) : ((pows m n).map V.int)[i]? = some (.int ((2 ^ i % m : Nat) : Int)) := by
  unfold pows
  rw [List.map_map, List.getElem?_map, List.getElem?_range h] <;> rfl
theorem pure_power_by_rows {K : PySem.W.Frag} {d : Nat} {vs : List V} {H : Hp} {Q : VK} {E : XK} (h : sp_power_by_rows K d vs H Q E) : t_power_by_rows K d { nx := fun _ H' => Q .non H', rt := Q } (start ["exponent", "rows", "at", "place", "turns", "_", "powers", "lead"] vs) H := by
  obtain ⟨x, y, z, R, rfl, ⟨e, rs, i, hx, hr, rfl, hok, hev, hh, hd, hi, hrs, rfl⟩, k⟩ := h
  obtain ⟨p, ys, rfl, hp, hys⟩ := _root_.id hr
  obtain ⟨⟨m, n, l⟩, hrow⟩ : ∃ r, rs[i]? = some r := ⟨_, List.getElem?_eq_getElem hi⟩
  obtain ⟨w, hw, q, pp, rfl, hq, hpp⟩ := hys.at hrow
  have hdrop := drop_at hrow
  rw [hdrop] at hrs
  have hrs' : 1 < m ∧ m ≤ 10000 ∧ IsRow m n l ∧ Rows (n - l) (rs.drop (i + 1)) := by cases hrs with | cons h1 h2 h3 h4 => exact ⟨h1, h2, h3, h4⟩
  obtain ⟨hm1, hm2, hir, hnext⟩ := hrs'
  have hle := hir.le (by omega)
  have hln := hir.1
  have hval : modAt (rs.drop i) = m := by rw [hdrop] <;> rfl
  rw [hval] at k
  refine q_unpack3 (er_is (ev_at (ev_var rfl) (ev_var rfl) (sq_of hp) (atI_of hw))) ?_
  rintro v H1 e1 rfl
  refine ⟨q, _, _, _, rfl, st_of (e1 q _ hq), ?_⟩
  refine q_asgR (R := fun v _ => v = optV (e.within (bl l))) (er_call2 (R1 := fun v H => NumV K H v e) (R2 := fun v _ => v = .int (bl l : Nat)) (er_var rfl fun H2 e2 => hx.ex (e1.trans e2)) numT.mono (er_is (by rw [← intBits_bl]; exact ev_bits (ev_var rfl))) monoC ?_) fun v H2 e2 hv => ?_
  · rintro v w' H2 e2 h1 rfl
    exact ⟨e, bl l, h1, rfl, hok.nn, by omega, by have := bl_le l; omega, hok.len, rfl⟩
  subst hv
  have hmain : l ≤ e.val.toNat → ∀ H3, Ex H2 H3 → ∀ z4 : Option V, tSeq (tAsg (tOp xSub (tCall (sp_number_by_rows K d) [] E0 (tCons (tVar 0) (tCons (tVar 1) (tCons (tOp xAdd (tVar 2) (tC (.int 1))) tNil)))) (tVar 7)) (gName 4))
      (tRet (tOp (rIxL K) (tVar 6) (tOp xAdd (tVar 7) (tOp xMod (tVar 4) (tOp xSub (tCB (rLenS K) (tCons (tVar 6) tNil)) (tVar 7)))))) { nx := fun _ H' => Q .non H', rt := Q }
      [some x, some (.ref p), some (.int (i : Int)), some (optV (e.within (bl l))), z4, some (.int (m : Int)), some (.ref pp), some (.int (l : Int))] H3 := by
    intro hl H3 e3 z4
    refine q_asg (ev_sub (i := e.val % ((n - l : Nat) : Int)) (ev_er (er_call3 (R1 := fun v H => NumV K H v e) (R2 := ListR RowT rs) (R3 := fun v _ => v = .int ((i + 1 : Nat) : Int)) (er_var rfl fun H4 e4 => hx.ex ((e1.trans e2).trans (e3.trans e4))) numT.mono (er_var rfl fun H4 e4 => listRT _ _ _ ((e1.trans e2).trans (e3.trans e4)) hr) listRT (er_is (ev_is (ev_add (ev_var rfl) ev_c) (congrArg V.int (by omega)))) monoC
      fun v v' v'' H4 e4 g1 g2 g3 => ⟨e, rs, i + 1, g1, g2, g3, hok, hh, by omega, by omega, by unfold RowsOk; rw [← hnext.mod]; exact hnext, by rw [← hnext.mod]⟩)) (ev_var rfl)) fun H4 e4 => ?_
    have hnl : 0 < n - l := by omega
    have hidx : (l : Int) + (e.val % ((n - l : Nat) : Int) - (l : Int)) % (((((pows m n).map V.int).length : Nat) : Int) - (l : Int)) = ((l + (e.val.toNat - l) % (n - l) : Nat) : Int) := by
      rw [List.length_map, pows_len, show (n : Int) - (l : Int) = ((n - l : Nat) : Int) by omega, Int.emod_sub_emod]
      have h1 : e.val - (l : Int) = ((e.val.toNat - l : Nat) : Int) := by omega
      rw [h1]
      norm_cast
    have hpp' : ∀ H5, Ex H4 H5 → H5 pp = some (.lst ((pows m n).map V.int)) := fun H5 e5 => (e1.trans (e2.trans (e3.trans (e4.trans e5)))) pp _ hpp
    refine s_ret (v := .int ((2 ^ e.val.toNat % m : Nat) : Int)) (ev_at (ev_var rfl) (ev_add (ev_var rfl) (ev_mod (ev_var rfl) (ev_sub (ev_len (xs := (pows m n).map V.int) (ev_var rfl) (sq_of (hpp' H4 (Ex.refl _)))) (ev_var rfl)) (by rw [List.length_map, pows_len]; omega))) (sq_of (hpp' H4 (Ex.refl _))) ?_) fun H5 e5 => k _ _ ((e1.trans e2).trans (e3.trans (e4.trans e5))) rfl
    rw [hidx, hir.turn hl]
    exact atI_of (pows_at (by have := Nat.mod_lt (e.val.toNat - l) hnl; omega))
  cases hq2 : e.within (bl l) with
  | none =>
    have hbig := can_none hok.can hq2
    have hl : l ≤ e.val.toNat := by
      have := lt_bl l
      omega
    refine q_when (b := false) (et_and (a := false) (b := true) (et_test (ev_is (ev_notN (ev_var rfl)) rfl)) (fun h => by cases h)) (fun h => by cases h) fun _ H3 e3 => ?_
    have := hmain hl H3 e3 none
    rw [hq2] at this
    exact this
  | some qv =>
    have hqv := within_val _ _ _ hq2
    refine q_when (b := decide (qv < (l : Int))) (et_is (et_and (a := true) (b := decide (qv < (l : Int))) (et_test (ev_is (ev_notN (ev_var rfl)) rfl)) fun _ => et_test (ev_lt (ev_var rfl) (ev_var rfl))) (Bool.true_and _)) (fun hc H3 e3 => ?_) (fun hc H3 e3 => ?_)
    · have hc' := of_decide_eq_true hc
      refine s_ret (v := .int ((2 ^ e.val.toNat % m : Nat) : Int)) (ev_at (k := qv) (ev_var rfl) (ev_var rfl) (sq_of ((e1.trans (e2.trans e3)) pp _ hpp)) ?_) fun H4 e4 => k _ _ ((e1.trans e2).trans (e3.trans e4)) rfl
      have hc2 : qv < (l : Int) := hc'
      have hq3 : qv = ((e.val.toNat : Nat) : Int) := by omega
      have hlt : e.val.toNat < n := by omega
      rw [hq3]
      exact atI_of (pows_at hlt)
    · have hc' := of_decide_eq_false hc
      have := hmain (by omega) H3 e3 none
      rw [hq2] at this
      exact this
end Sk

set_option Elab.async false
set_option linter.all false
set_option maxRecDepth 100000
set_option maxHeartbeats 2000000
namespace Sk
open PySem L2 Evl
/-! ### remainder, power_remainder, powers_of_two -/
def pRem (K : PySem.W.Frag) (CN : Addr) : V → V → Hp → VP → WP → Prop := fun x y H R W => ∃ (t : T) (m : Int), NumV K H x t ∧ y = .int m ∧ t.ok ∧ t.height < 44 ∧ (1 ≤ m ∧ m ≤ 10000 → ∀ H', R (.int (t.val % m)) H') ∧ (¬ (1 ≤ m ∧ m ≤ 10000) → W CN)
def sp_remainder (K : PySem.W.Frag) (CN : Addr) : Sp := spX2 K (pRem K CN)
def t_remainder (K : PySem.W.Frag) (a_NotAllowed : Addr) (E : XK) : TS := (tSeq (tDrop (tCall (sp_check_modulus K a_NotAllowed) [] E (tCons (tVar 1) tNil)))
    (tRet (tCall (sp_number_by_rows K 45) [] E0 (tCons (tVar 0) (tCons (tCall (sp_power_rows K) [] E0 (tCons (tVar 1) tNil)) (tCons (tC (.int 0)) tNil))))))
/-- the modulus is looked at: it is fine, or the error is due -/
theorem x_check {K : PySem.W.Frag} {CN : Addr} {σ : L2.St} {H : Hp} {te : TE} {E : XK} {m : Int} {Q : VK} (h : Ev te σ H (.int m)) (k1 : 1 ≤ m ∧ m ≤ 10000 → ∀ H1, Ex H H1 → Q .non H1) (k2 : ¬ (1 ≤ m ∧ m ≤ 10000) → ∀ H1, Ex H H1 → ∀ d, ErrAt K CN d H1 → E (.ref CN) (some d) H1) : tCall (sp_check_modulus K CN) [] E (tCons te tNil) σ H Q :=
  x_call1 (R1 := fun v _ => v = .int m) (er_is h) monoC Q fun v H1 e1 hv =>
    ⟨fun v _ => v = .non ∧ (1 ≤ m ∧ m ≤ 10000), fun C => C = CN ∧ ¬ (1 ≤ m ∧ m ≤ 10000), ⟨m, hv, fun hm _ => ⟨rfl, hm⟩, fun hm => ⟨rfl, hm⟩⟩, fun w H2 e2 ⟨hw, hm⟩ => by rw [hw]; exact k1 hm H2 (e1.trans e2), fun C H2 e2 ⟨hC, hm⟩ => by rw [hC]; exact k2 hm H2 (e1.trans e2)⟩
theorem pure_remainder {K : PySem.W.Frag} {CN : Addr} {vs : List V} {H : Hp} {Q : VK} {E : XK} (h : sp_remainder K CN vs H Q E) : t_remainder K CN E { nx := fun _ H' => Q .non H', rt := Q } (start ["x", "m"] vs) H := by
  obtain ⟨x, y, R, W, rfl, ⟨t, m, hx, rfl, hok, hh, h1, h2⟩, k, kE⟩ := h
  refine x_check (m := m) (ev_var rfl) (fun hm H1 e1 => ?_) (fun hm H1 e1 => kE CN H1 e1 (h2 hm))
  obtain ⟨mn, rfl⟩ : ∃ mn : Nat, m = (mn : Int) := ⟨m.toNat, by omega⟩
  refine s_retR (R := fun v _ => v = .int (t.val % (mn : Int))) (er_call3 (R1 := fun v H => NumV K H v t) (R2 := fun v H' => ∃ rs, Rows mn rs ∧ ListR RowT rs v H') (R3 := fun v _ => v = .int ((0 : Nat) : Int)) (er_var rfl fun H2 e2 => hx.ex (e1.trans e2)) numT.mono
    (er_call1 (R1 := fun v _ => v = .int (mn : Int)) (er_is (ev_var rfl)) monoC fun v H2 e2 hv => ⟨mn, hv, by omega, by omega, rfl⟩) (fun v Ha Hb e ⟨rs, g1, g2⟩ => ⟨rs, g1, listRT _ _ _ e g2⟩) (er_is ev_c) monoC
    fun v v' v'' H2 e2 g1 ⟨rs, g2, g3⟩ g4 => ⟨t, rs, 0, g1, g3, g4, hok, by omega, Nat.le_refl _, Nat.zero_le _, by show RowsOk rs; unfold RowsOk; rw [← g2.mod]; exact g2, by rw [List.drop_zero, ← g2.mod]⟩) fun v H2 e2 hv => ?_
  subst hv
  exact k _ _ (e1.trans e2) (h1 hm _)
def pPowRem (K : PySem.W.Frag) (CN : Addr) : V → V → Hp → VP → WP → Prop := fun x y H R W => ∃ (e : T) (m : Int), NumV K H x e ∧ y = .int m ∧ e.ok ∧ e.height < 43 ∧ ((1 ≤ m ∧ m ≤ 10000) ∧ 0 ≤ e.val → ∀ H', R (.int (2 ^ e.val.toNat % m)) H') ∧ (¬ ((1 ≤ m ∧ m ≤ 10000) ∧ 0 ≤ e.val) → W CN)
def sp_power_remainder (K : PySem.W.Frag) (CN : Addr) : Sp := spX2 K (pPowRem K CN)
def t_power_remainder (K : PySem.W.Frag) (a_NotAllowed : Addr) (E : XK) : TS := (tSeq (tDrop (tCall (sp_check_modulus K a_NotAllowed) [] E (tCons (tVar 1) tNil)))
    (tSeq (tIfS (tTest (tOp xLt (tCall (sp_sign_of K) [] E0 (tCons (tVar 0) tNil)) (tC (.int 0)))) (tRaise K E a_NotAllowed) tNext)
    (tRet (tCall (sp_remainder K a_NotAllowed) [] E (tCons (tTup (tCons (tTup (tCons (tC (.int 1)) (tCons (tVar 0) tNil))) tNil)) (tCons (tVar 1) tNil))))))
theorem ev_sign {K : PySem.W.Frag} {σ : L2.St} {H : Hp} {te : TE} {t : T} (h : ER te σ H (fun v H' => NumV K H' v t)) : Ev (tCall (sp_sign_of K) [] E0 (tCons te tNil)) σ H (.int t.sgn) :=
  ev_er (er_call1 (R1 := fun v H => NumV K H v t) h numT.mono fun v H1 e1 hv => ⟨t, hv, rfl⟩)
theorem pow_ok {e : T} (h : e.ok) (h0 : 0 ≤ e.val) : (T.cons 1 e .nil).ok :=
  ⟨⟨⟨.inl rfl, h0, h0⟩, h.can, True.intro⟩, ⟨⟨.inl rfl, h0, h.len, h.can⟩, h.nn, True.intro⟩, by show 1 < 100000; omega⟩
theorem pow_val (e : T) : (T.cons 1 e .nil).val = 2 ^ e.val.toNat := by show 1 * 2 ^ e.val.toNat + 0 = _; omega
theorem pure_power_remainder {K : PySem.W.Frag} {CN : Addr} {vs : List V} {H : Hp} {Q : VK} {E : XK} (h : sp_power_remainder K CN vs H Q E) : t_power_remainder K CN E { nx := fun _ H' => Q .non H', rt := Q } (start ["exponent", "m"] vs) H := by
  obtain ⟨x, y, R, W, rfl, ⟨e, m, hx, rfl, hok, hh, h1, h2⟩, k, kE⟩ := h
  refine x_check (m := m) (ev_var rfl) (fun hm H1 e1 => ?_) (fun hm H1 e1 => kE CN H1 e1 (h2 fun q => hm q.1))
  have hsg := can_sgn hok.can
  refine q_when (et_test (ev_lt (ev_sign (er_var rfl fun H2 e2 => hx.ex (e1.trans e2))) ev_c)) (fun hc H2 e2 => ?_) (fun hc H2 e2 => ?_)
  · have := of_decide_eq_true hc
    exact fun Hz ez => kE CN Hz ((e1.trans e2).trans ez) (h2 fun q => by have := q.2; omega)
  · have hs : ¬ e.sgn < 0 := of_decide_eq_false hc
    have h0 : 0 ≤ e.val := by omega
    have hnum : ER (tTup (tCons (tTup (tCons (tC (.int 1)) (tCons (tVar 0) tNil))) tNil)) [some x, some (.int m)] H2 (fun v H' => NumV K H' v (T.cons 1 e .nil)) :=
      (er_tup (ea_one (er_tup (ea_two (R := fun v _ => v = .int 1) (R' := fun v H => NumV K H v e) (er_is ev_c) monoC (er_var rfl fun H3 e3 => hx.ex ((e1.trans e2).trans e3)) numT.mono) (fun vs H3 H4 e ⟨v, w, g1, g2, g3⟩ => ⟨v, w, g1, g2, g3.ex e⟩) (fun vs H3 ⟨v, w, g1, _⟩ => by rw [g1]; show 2 ≤ 100000; omega))
        (fun v Ha Hb e ⟨p, vs, g1, g2, v', w, g3, g4, g5⟩ => ⟨p, vs, g1, e p _ g2, v', w, g3, g4, g5.ex e⟩)) (fun vs Ha Hb e ⟨v, hv, p, vs', g1, g2, v', w, g3, g4, g5⟩ => ⟨v, hv, p, vs', g1, e p _ g2, v', w, g3, g4, g5.ex e⟩) (fun vs H3 ⟨v, hv, _⟩ => by rw [hv]; show 1 ≤ 100000; omega)).imp
        fun v H3 e3 ⟨p, vs, g0, g1, v', hv', q, vs', g2, g3, u, w, g4, g5, g6⟩ => by
          subst g0 hv' g2 g4 g5
          exact NumV.mk (st_of g1) (TermsV.cons (st_of g3) g6 TermsV.nil)
    refine x_call2 (R1 := fun v H => NumV K H v (T.cons 1 e .nil)) (R2 := fun v _ => v = .int m) hnum numT.mono (er_is (ev_var rfl)) monoC _ fun v v' H3 e3 g1 g2 =>
      ⟨R, W, ⟨_, m, g1, g2, pow_ok hok h0, by show max (e.height + 1) 0 < 44; omega, fun hm' H' => by rw [pow_val]; exact h1 ⟨hm', h0⟩ H', fun hm' => absurd hm hm'⟩, fun w H4 e4 hw => k _ _ ((e1.trans e2).trans (e3.trans e4)) hw, fun C H4 e4 hw => kE C H4 ((e1.trans e2).trans (e3.trans e4)) hw⟩
def pPowsTwo (CN : Addr) : V → Hp → VP → WP → Prop := fun x H R W => ∃ m : Int, x = .int m ∧ (1 ≤ m ∧ m ≤ 10000 → ∀ (n l : Nat) (q : Addr) H', IsRow m.toNat n l → H' q = some (.tup [.int (l : Int), .int ((n - l : Nat) : Int)]) → R (.ref q) H') ∧ (¬ (1 ≤ m ∧ m ≤ 10000) → W CN)
def sp_powers_of_two (K : PySem.W.Frag) (CN : Addr) : Sp := spX1 K (pPowsTwo CN)
def t_powers_of_two (K : PySem.W.Frag) (a_NotAllowed : Addr) (E : XK) : TS := (tSeq (tDrop (tCall (sp_check_modulus K a_NotAllowed) [] E (tCons (tVar 0) tNil)))
    (tSeq (tAsg (tCall (sp_power_row K) [] E0 (tCons (tVar 0) tNil)) (gTup K 2 (gCons (gName 1) (gCons (gName 2) gNil))))
    (tRet (tTup (tCons (tVar 2) (tCons (tOp xSub (tCB (rLenS K) (tCons (tVar 1) tNil)) (tVar 2)) tNil))))))
theorem pure_powers_of_two {K : PySem.W.Frag} {CN : Addr} {vs : List V} {H : Hp} {Q : VK} {E : XK} (h : sp_powers_of_two K CN vs H Q E) : t_powers_of_two K CN E { nx := fun _ H' => Q .non H', rt := Q } (start ["m", "powers", "lead"] vs) H := by
  obtain ⟨x, R, W, rfl, ⟨m, rfl, h1, h2⟩, k, kE⟩ := h
  refine x_check (m := m) (ev_var rfl) (fun hm H1 e1 => ?_) (fun hm H1 e1 => kE CN H1 e1 (h2 hm))
  obtain ⟨mn, rfl⟩ : ∃ mn : Nat, m = (mn : Int) := ⟨m.toNat, by omega⟩
  refine q_unpack2 (er_call1 (R1 := fun v _ => v = .int (mn : Int)) (R := PRow H1 mn) (er_is (ev_var rfl)) monoC fun v H4 e4 hv => ⟨mn, hv, by omega, by omega, fun v H' ⟨q, p, n, l, g1, g2, g3, g4, g5⟩ => ⟨q, p, n, l, g1, g2, g3, g4, fresh_back e4 g5⟩⟩) ?_
  rintro v H2 e2 ⟨q, p, n, l, rfl, g2, g3, g4, g5⟩
  have hln := g2.1
  refine ⟨q, _, _, rfl, st_of g3, ?_⟩
  refine s_retU (eu_tup (vs := [.int (l : Int), .int ((n - l : Nat) : Int)]) (ea_cons (ev_var rfl) (ea_cons (ev_is (ev_sub (ev_len (xs := (pows mn n).map V.int) (ev_var rfl) (sq_of g4)) (ev_var rfl)) ?_) ea_nil)) (by show 2 ≤ 100000; omega)) fun r H3 _ e3 h3 => k _ _ ((e1.trans e2).trans e3) (h1 hm n l r _ g2 h3)
  rw [List.length_map, pows_len]
  exact congrArg V.int (by omega)
end Sk

set_option Elab.async false
set_option linter.all false
set_option maxRecDepth 100000
set_option maxHeartbeats 2000000
namespace Sk
open PySem L2 Evl
section
variable {K : PySem.W.Frag} {σ : L2.St} {H : Hp} {ta tb : TE} {tx : TA}
/-- [a, b, ..][k] -/
theorem ev_pickL {xs : List V} {k : Nat} {v : V} (h : EvA tx σ H xs) (hz : xs.length ≤ 1000) (hk : Ev tb σ H (.int (k : Int))) (hv : xs[k]? = some v) : Ev (tOp (rIxL K) (tLst tx) tb) σ H v :=
  ev_opL1 (el_lst h (by omega)) (fun H1 e => hk.mono e) fun p H1 hp e => rv_ixL (sq_of hp) (atI_nat hv)
theorem ints_at {l : List Int} {i : Nat} (h : i < l.length) : atI (l.map V.int) (i : Int) = some (.int (l.getD i 0)) := by
  refine atI_nat ?_
  rw [List.getElem?_map, List.getElem?_eq_getElem h, List.getD_eq_getElem?_getD, List.getElem?_eq_getElem h] <;> rfl
theorem getD_mem {l : List Int} {i : Nat} (h : i < l.length) : l.getD i 0 ∈ l := by
  rw [List.getD_eq_getElem?_getD, List.getElem?_eq_getElem h]
  exact List.getElem_mem h
theorem ev_ints {a : Addr} {l : List Int} {i : Nat} {k : Int} (ho : Ev ta σ H (.ref a)) (hi : Ev tb σ H (.int k)) (hk : k = (i : Int)) (hs : SqL K H a (l.map V.int)) (h : i < l.length) : Ev (tOp (rIxL K) ta tb) σ H (.int (l.getD i 0)) :=
  ev_at ho hi hs (by rw [hk]; exact ints_at h)
end
/-- a list of ints -/
def IntsL (l : List Int) : VP := fun v H => ∃ p, v = .ref p ∧ H p = some (.lst (l.map V.int))
theorem intsL (l : List Int) : Mono (IntsL l) := fun v H H' e ⟨p, h1, h2⟩ => ⟨p, h1, e p _ h2⟩
/-! ### the law's draws -/
def pCell (K : PySem.W.Frag) : V → V → Hp → VP → Prop := fun x y H R => ∃ (a : Addr) (ns : List Int) (i : Nat), x = .ref a ∧ SqL K H a (ns.map V.int) ∧ y = .int (i : Int) ∧ R = fun v _ => ∃ c : Int, v = .int c
def sp_law_cell (K : PySem.W.Frag) : Sp := spF2 (pCell K)
def t_law_cell (K : PySem.W.Frag) : TS := (tSeq (tIfS (tTest (tOp xLt (tVar 1) (tCB (rLenS K) (tCons (tVar 0) tNil)))) (tRet (tOp (rIxL K) (tVar 0) (tVar 1))) tNext)
    (tRet (tC (.int 0))))
theorem pure_law_cell {K : PySem.W.Frag} {vs : List V} {H : Hp} {Q : VK} {E : XK} (h : sp_law_cell K vs H Q E) : t_law_cell K { nx := fun _ H' => Q .non H', rt := Q } (start ["script", "k"] vs) H := by
  obtain ⟨x, y, R, rfl, ⟨a, ns, i, rfl, hs, rfl, rfl⟩, k⟩ := h
  refine q_when (et_test (ev_lt (ev_var rfl) (ev_len (ev_var rfl) hs))) (fun hc H1 e1 => ?_) (fun hc H1 e1 => ?_)
  · have h1 := of_decide_eq_true hc
    rw [List.length_map] at h1
    exact s_ret (ev_ints (ev_var rfl) (ev_var rfl) rfl (ex_l e1 hs) (by omega)) fun H2 e2 => k _ _ (e1.trans e2) ⟨_, rfl⟩
  · exact s_ret ev_c fun H2 e2 => k _ _ (e1.trans e2) ⟨_, rfl⟩
/-- so many numbers, each from 0 to 999 -/
def Drawn (n : Nat) : VP := fun v H => ∃ l : List Int, l.length = n ∧ (∀ x ∈ l, 0 ≤ x ∧ x < 1000) ∧ IntsL l v H
theorem drawn (n : Nat) : Mono (Drawn n) := fun v H H' e ⟨l, h1, h2, h3⟩ => ⟨l, h1, h2, intsL l _ _ _ e h3⟩
def pNumbers : V → V → V → Hp → VP → Prop := fun x y z H R => ∃ (c k : Int) (n : Nat), x = .int c ∧ y = .int k ∧ z = .int (n : Int) ∧ n ≤ 1000 ∧ R = Drawn n
def sp_law_numbers (K : PySem.W.Frag) : Sp := spF3 pNumbers
def t_law_numbers (K : PySem.W.Frag) : TS := (tSeq (tAsg (tLst tNil) (gName 3))
    (tSeq (tIfS (tTest (tOp xGe (tVar 0) (tOp xPow (tC (.int 10)) (tC (.int 18))))) (tSeq (tAsg (tVar 0) (gName 6))
    (tSeq (tFor (iRng1 (tCons (tVar 2) tNil)) (gName 5) (tSeq (tDrop (tBM K "list" rAppend (tVar 3) (tCons (tOp xMod (tCB xInt1 (tCons (tVar 6) tNil)) (tC (.int 1000))) tNil)))
    (tAsg (tOp xFdiv (tVar 6) (tC (.int 1000))) (gName 6))))
    (tRet (tVar 3)))) tNext)
    (tSeq (tAsg (tOp xMod (tCB xInt1 (tCons (tOp xAdd (tOp xAdd (tOp xMul (tVar 0) (tC (.int 48271))) (tOp xMul (tVar 1) (tC (.int 69621)))) (tC (.int 11))) tNil)) (tC (.int 2147483647))) (gName 4))
    (tSeq (tFor (iRng1 (tCons (tVar 2) tNil)) (gName 5) (tSeq (tAsg (tOp xMod (tCB xInt1 (tCons (tOp xAdd (tOp xAdd (tOp xMul (tVar 4) (tC (.int 16807))) (tOp xMul (tVar 5) (tC (.int 7919)))) (tC (.int 13))) tNil)) (tC (.int 2147483647))) (gName 4))
    (tSeq (tAsg (tOp xMod (tCB xInt1 (tCons (tOp xAdd (tOp xAdd (tOp xMul (tVar 4) (tVar 4)) (tOp xMul (tVar 1) (tC (.int 31)))) (tVar 5)) tNil)) (tC (.int 1000000007))) (gName 7))
    (tDrop (tBM K "list" rAppend (tVar 3) (tCons (tOp xMod (tCB xInt1 (tCons (tOp xFdiv (tVar 7) (tC (.int 101))) tNil)) (tC (.int 1000))) tNil))))))
    (tRet (tVar 3))))))
def WDraw (x y z : V) (l : Addr) (H0 : Hp) (ok : Int → Prop) (i : Nat) (σ : L2.St) (H : Hp) : Prop := ∃ (z4 z5 z6 z7 : Option V) (m : Int) (b : Bool) (ns : List Int),
  σ = [some x, some y, some z, some (.ref l), if b then some (.int m) else z4, z5, if b then z6 else some (.int m), z7] ∧ H0 l = none ∧ Ex H0 H ∧ H l = some (.lst (ns.map V.int)) ∧ ns.length = i ∧ ∀ v ∈ ns, 0 ≤ v ∧ v < 1000
theorem pure_law_numbers {K : PySem.W.Frag} {vs : List V} {H : Hp} {Q : VK} {E : XK} (h : sp_law_numbers K vs H Q E) : t_law_numbers K { nx := fun _ H' => Q .non H', rt := Q } (start ["cell", "k", "many", "numbers", "mixed", "j", "rest", "twice"] vs) H := by
  obtain ⟨x, y, z, R, rfl, ⟨c, kk, n, rfl, rfl, rfl, hn, rfl⟩, k⟩ := h
  refine q_asgL (el_lst ea_nil (by decide)) fun l H1 hl e1 h1 => ?_
  have snoc : ∀ {ns : List Int} {v : Int}, (∀ w ∈ ns, 0 ≤ w ∧ w < 1000) → 0 ≤ v ∧ v < 1000 → ∀ w ∈ ns ++ [v], 0 ≤ w ∧ w < 1000 := fun h1 h2 w hw => by
    rcases List.mem_append.mp hw with h | h
    · exact h1 w h
    · rw [List.mem_singleton.mp h]; exact h2
  refine q_when (et_test (ev_ge (ev_var rfl) (ev_pow ev_c ev_c ⟨by decide, by decide, by decide⟩))) (fun _ H2 e2 => ?_) (fun _ H2 e2 => ?_)
  · refine q_asg (ev_var rfl) fun H3 e3 => ?_
    refine q_forR1 (ea_cons (ev_var rfl) ea_nil) ⟨by omega, by omega⟩ (fun i σ H' => ∃ (z5 : Option V) (m : Int) (ns : List Int), σ = [some (.int c), some (.int kk), some (.int (n : Int)), some (.ref l), none, z5, some (.int m), none] ∧ Ex H H' ∧ H' l = some (.lst (ns.map V.int)) ∧ ns.length = i ∧ ∀ v ∈ ns, 0 ≤ v ∧ v < 1000)
      (fun H4 e4 => ⟨none, c, [], rfl, ((e1.trans e2).trans e3).trans e4, (e2.trans (e3.trans e4)) l _ h1, rfl, fun v h => by cases h⟩) ?_ ?_
    · rintro i σ H' hi ⟨z5, m, ns, rfl, e4, h4, h5, h6⟩
      refine q_app h4 (ev_var rfl) (ev_mod (ev_int1 (ev_var rfl)) ev_c (by decide)) (by rw [List.length_map]; omega) fun H5 e5 => ?_
      refine s_asg (ev_fdiv (ev_var rfl) ev_c ⟨by decide, by decide⟩) fun H6 e6 => ⟨_, _, ns ++ [m % 1000], rfl, (Ex.mut (e4.trans e5) hl).trans e6, by rw [List.map_append]; exact e6 l _ upd_same, by rw [List.length_append, h5]; rfl, snoc h6 (by omega)⟩
    · rintro σ H' ⟨z5, m, ns, rfl, e4, h4, h5, h6⟩
      exact s_ret (ev_var rfl) fun H5 e5 => k _ _ (e4.trans e5) ⟨ns, by rw [h5]; omega, h6, l, rfl, e5 l _ h4⟩
  · refine q_asg (ev_mod (ev_int1 (ev_add (ev_add (ev_mul (ev_var rfl) ev_c (.inr (by decide))) (ev_mul (ev_var rfl) ev_c (.inr (by decide)))) ev_c)) ev_c (by decide)) fun H3 e3 => ?_
    refine q_forR1 (ea_cons (ev_var rfl) ea_nil) ⟨by omega, by omega⟩ (fun i σ H' => ∃ (z5 z7 : Option V) (m : Int) (ns : List Int), σ = [some (.int c), some (.int kk), some (.int (n : Int)), some (.ref l), some (.int m), z5, none, z7] ∧ (0 ≤ m ∧ m < 2147483647) ∧ Ex H H' ∧ H' l = some (.lst (ns.map V.int)) ∧ ns.length = i ∧ ∀ v ∈ ns, 0 ≤ v ∧ v < 1000)
      (fun H4 e4 => ⟨none, none, _, [], rfl, by omega, ((e1.trans e2).trans e3).trans e4, (e2.trans (e3.trans e4)) l _ h1, rfl, fun v h => by cases h⟩) ?_ ?_
    · rintro i σ H' hi ⟨z5, z7, m, ns, rfl, hm, e4, h4, h5, h6⟩
      refine q_asg (ev_mod (ev_int1 (ev_add (ev_add (ev_mul (ev_var rfl) ev_c (.inr (by decide))) (ev_mul (ev_var rfl) ev_c (.inr (by decide)))) ev_c)) ev_c (by decide)) fun H5 e5 => ?_
      refine q_asg (ev_mod (ev_int1 (ev_add (ev_add (ev_mul (ev_var rfl) (ev_var rfl) (.inl (by constructor <;> omega))) (ev_mul (ev_var rfl) ev_c (.inr (by decide)))) (ev_var rfl))) ev_c (by decide)) fun H6 e6 => ?_
      refine s_app ((e5.trans e6) l _ h4) (ev_var rfl) (ev_mod (ev_int1 (ev_fdiv (ev_var rfl) ev_c ⟨by decide, by decide⟩)) ev_c (by decide)) (by rw [List.length_map]; omega) fun H7 e7 => ⟨_, _, _, ns ++ [_], rfl, by omega, Ex.mut (((e4.trans e5).trans e6).trans e7) hl, by rw [List.map_append]; exact upd_same, by rw [List.length_append, h5]; rfl, snoc h6 (by omega)⟩
    · rintro σ H' ⟨z5, z7, m, ns, rfl, hm, e4, h4, h5, h6⟩
      exact s_ret (ev_var rfl) fun H5 e5 => k _ _ (e4.trans e5) ⟨ns, by rw [h5]; omega, h6, l, rfl, e5 l _ h4⟩
end Sk

set_option Elab.async false
set_option linter.all false
set_option maxRecDepth 100000
set_option maxHeartbeats 2000000
namespace Sk
open PySem L2 Evl
/-- drawn numbers, at least one, each from 0 to 1008 -/
def Pool : VP := fun v H => ∃ l : List Int, (0 < l.length ∧ l.length ≤ 4000) ∧ (∀ x ∈ l, 0 ≤ x ∧ x < 1009) ∧ IntsL l v H
theorem pool : Mono Pool := fun v H H' e ⟨l, h1, h2, h3⟩ => ⟨l, h1, h2, intsL l _ _ _ e h3⟩
def pStream (K : PySem.W.Frag) : V → Hp → VP → Prop := fun x H R => ∃ (a : Addr) (ns : List Int), x = .ref a ∧ SqL K H a (ns.map V.int) ∧ R = Pool
def sp_law_stream (K : PySem.W.Frag) : Sp := spF1 (pStream K)
def t_law_stream (K : PySem.W.Frag) : TS := (tSeq (tAsg (tLst tNil) (gName 1))
    (tSeq (tFor (iList K (tSl (rSlL K) (tVar 0) tNoPart (tPart (tC (.int 63))))) (gName 2) (tSeq (tAsg (tCB xInt1 (tCons (tVar 2) tNil)) (gName 3))
    (tIfS (tTest (tOp xGe (tVar 3) (tOp xPow (tC (.int 10)) (tC (.int 18))))) (tFor (iRng1 (tCons (tC (.int 60)) tNil)) (gName 4) (tSeq (tDrop (tBM K "list" rAppend (tVar 1) (tCons (tOp xMod (tCB xInt1 (tCons (tVar 3) tNil)) (tC (.int 1009))) tNil)))
    (tSeq (tAsg (tOp xFdiv (tVar 3) (tC (.int 1009))) (gName 3))
    (tIfS (tTest (tOp rEq (tVar 3) (tC (.int 0)))) tBreak tNext)))) (tSeq (tAsg (tOp xMod (tCB xInt1 (tCons (tVar 3) tNil)) (tC (.int 2147483647))) (gName 5))
    (tFor (iRng1 (tCons (tC (.int 10)) tNil)) (gName 4) (tSeq (tAsg (tOp xMod (tCB xInt1 (tCons (tOp xAdd (tOp xAdd (tOp xMul (tVar 5) (tC (.int 48271))) (tOp xMul (tC (.int 7)) (tVar 4))) (tC (.int 11))) tNil)) (tC (.int 2147483647))) (gName 5))
    (tDrop (tBM K "list" rAppend (tVar 1) (tCons (tOp xMod (tOp xMod (tCB xInt1 (tCons (tOp xAdd (tOp xMul (tVar 5) (tC (.int 69621))) (tVar 4)) tNil)) (tC (.int 2147483629))) (tC (.int 1009))) tNil)))))))))
    (tSeq (tIfS (tTest (tOp rEq (tCB (rLenS K) (tCons (tVar 1) tNil)) (tC (.int 0)))) (tDrop (tBM K "list" rAppend (tVar 1) (tCons (tC (.int 0)) tNil))) tNext)
    (tRet (tVar 1)))))
theorem snocP {m : Int} {ns : List Int} {v : Int} (h1 : ∀ w ∈ ns, 0 ≤ w ∧ w < m) (h2 : 0 ≤ v ∧ v < m) : ∀ w ∈ ns ++ [v], 0 ≤ w ∧ w < m := fun w hw => by
  rcases List.mem_append.mp hw with h | h
  · exact h1 w h
  · rw [List.mem_singleton.mp h]; exact h2
theorem cut_map {l : List Int} {n : Nat} : cutV (l.map V.int) none (some (n : Int)) = (l.take n).map V.int := by
  unfold cutV HT.sIx
  simp only [List.drop_zero, Nat.sub_zero]
  rw [if_neg (by omega), Int.toNat_natCast, List.map_take, List.length_map]
  rcases Nat.le_total n l.length with h | h
  · rw [Nat.min_eq_left h]
  · rw [Nat.min_eq_right h, List.take_of_length_le (by rw [List.length_map]; exact Nat.le_refl _), List.take_of_length_le (by rw [List.length_map]; exact h)]
theorem int_mem {l : List Int} {i : Nat} {x : V} (h : (l.map V.int)[i]? = some x) : ∃ n, x = .int n := by
  rw [List.getElem?_map] at h
  cases hq : l[i]? with
  | none => rw [hq] at h; cases h
  | some n => rw [hq] at h; cases h; exact ⟨n, rfl⟩
theorem modN {n : Nat} (k : Int) (h : 0 < n) : ∃ j : Nat, j < n ∧ k % (n : Int) = (j : Int) := by
  have h1 := Int.emod_nonneg k (show (n : Int) ≠ 0 by omega)
  have h2 := Int.emod_lt_of_pos k (show (0 : Int) < n by omega)
  exact ⟨(k % (n : Int)).toNat, by omega, by omega⟩
theorem pure_law_stream {K : PySem.W.Frag} {vs : List V} {H : Hp} {Q : VK} {E : XK} (h : sp_law_stream K vs H Q E) : t_law_stream K { nx := fun _ H' => Q .non H', rt := Q } (start ["script", "numbers", "cell", "rest", "k", "mixed"] vs) H := by
  obtain ⟨x, R, rfl, ⟨a, ns, rfl, hs, rfl⟩, k⟩ := h
  refine q_asgL (el_lst ea_nil (by decide)) fun l H1 hl e1 h1 => ?_
  refine q_forNLn (xs := (ns.take 63).map V.int) (by rw [← cut_map]; exact el_sl (ev_var rfl) eo_none (eo_some ev_c) (ex_l e1 hs))
    (fun p i σ H' => (p ≠ l ∧ H' p = some (.lst ((ns.take 63).map V.int))) ∧ ∃ (z2 z3 z4 z5 : Option V) (ms : List Int), σ = [some (.ref a), some (.ref l), z2, z3, z4, z5] ∧ Ex H H' ∧ H' l = some (.lst (ms.map V.int)) ∧ ms.length ≤ 60 * i ∧ ∀ w ∈ ms, 0 ≤ w ∧ w < 1009)
    (fun p H2 hp e2 h2 => ⟨⟨fun z => (by rw [z, h1] at hp; cases hp), h2⟩, none, none, none, none, [], rfl, e1.trans e2, e2 l _ h1, by decide, fun w hw => by cases hw⟩) (fun p i σ H' _ h => sq_of h.1.2) ?_ ?_
  · rintro p i x σ H' hi ⟨⟨hpl, hp⟩, z2, z3, z4, z5, ms, rfl, e2, h2, h3, h4⟩
    have hlen : i < 63 := by
      have := (List.getElem?_eq_some_iff.mp hi).1
      rw [List.length_map, List.length_take] at this
      omega
    obtain ⟨n, rfl⟩ := int_mem hi
    refine q_asg (ev_int1 (ev_var rfl)) fun H3 e3 => ?_
    refine s_if (et_test (ev_ge (ev_var rfl) (ev_pow ev_c ev_c ⟨by decide, by decide, by decide⟩))) (fun _ H4 e4 => ?_) (fun _ H4 e4 => ?_)
    · refine s_forR1 (ea_cons ev_c ea_nil) ⟨by decide, by decide⟩ (fun j σ H5 => H5 p = some (.lst ((ns.take 63).map V.int)) ∧ ∃ (m : Int) (z4 : Option V) (ms' : List Int), σ = [some (.ref a), some (.ref l), some (.int n), some (.int m), z4, z5] ∧ Ex H H5 ∧ H5 l = some (.lst (ms'.map V.int)) ∧ ms'.length = ms.length + j ∧ ∀ w ∈ ms', 0 ≤ w ∧ w < 1009)
        (fun H5 e5 => ⟨(e3.trans (e4.trans e5)) p _ hp, n, z4, ms, rfl, ((e2.trans e3).trans e4).trans e5, (e3.trans (e4.trans e5)) l _ h2, rfl, h4⟩) ?_ ?_
      · rintro j σ H5 hj ⟨hp5, m, z4, ms', rfl, e5, h5, h6, h7⟩
        refine q_app h5 (ev_var rfl) (ev_mod (ev_int1 (ev_var rfl)) ev_c (by decide)) (by rw [List.length_map]; omega) fun H6 e6 => ?_
        refine q_asg (ev_fdiv (ev_var rfl) ev_c ⟨by decide, by decide⟩) fun H7 e7 => ?_
        have fin : ∀ H8, Ex H7 H8 → H8 p = some (.lst ((ns.take 63).map V.int)) ∧ Ex H H8 ∧ H8 l = some (.lst ((ms' ++ [m % 1009]).map V.int)) := fun H8 e8 => ⟨(e7.trans e8) p _ (by rw [upd_ne hpl]; exact e6 p _ hp5), (Ex.mut (e5.trans e6) hl).trans (e7.trans e8), by rw [List.map_append]; exact (e7.trans e8) l _ upd_same⟩
        refine s_when (et_test (ev_eq (ev_var rfl) ev_c rfl)) (fun _ H8 e8 => ?_) (fun _ H8 e8 => ?_)
        · obtain ⟨f1, f2, f3⟩ := fin H8 e8
          exact ⟨⟨hpl, f1⟩, _, _, _, _, _, rfl, f2, f3, by rw [List.length_append]; simp; omega, snocP h7 (by omega)⟩
        · obtain ⟨f1, f2, f3⟩ := fin H8 e8
          exact ⟨f1, _, _, _, rfl, f2, f3, by rw [List.length_append, h6]; rfl, snocP h7 (by omega)⟩
      · rintro σ H5 ⟨hp5, m, z4, ms', rfl, e5, h5, h6, h7⟩
        exact ⟨⟨hpl, hp5⟩, _, _, _, _, ms', rfl, e5, h5, by have : (60 : Int).toNat = 60 := rfl; omega, h7⟩
    · refine q_asg (ev_mod (ev_int1 (ev_var rfl)) ev_c (by decide)) fun H5 e5 => ?_
      refine s_forR1 (ea_cons ev_c ea_nil) ⟨by decide, by decide⟩ (fun j σ H5 => H5 p = some (.lst ((ns.take 63).map V.int)) ∧ ∃ (m : Int) (z4 : Option V) (ms' : List Int), σ = [some (.ref a), some (.ref l), some (.int n), some (.int n), z4, some (.int m)] ∧ Ex H H5 ∧ H5 l = some (.lst (ms'.map V.int)) ∧ ms'.length = ms.length + j ∧ ∀ w ∈ ms', 0 ≤ w ∧ w < 1009)
        (fun H6 e6 => ⟨(e3.trans (e4.trans (e5.trans e6))) p _ hp, _, z4, ms, rfl, ((e2.trans e3).trans e4).trans (e5.trans e6), (e3.trans (e4.trans (e5.trans e6))) l _ h2, rfl, h4⟩) ?_ ?_
      · rintro j σ H6 hj ⟨hp6, m, z4, ms', rfl, e6, h6, h7, h8⟩
        refine q_asg (ev_mod (ev_int1 (ev_add (ev_add (ev_mul (ev_var rfl) ev_c (.inr (by decide))) (ev_mul ev_c (ev_var rfl) (.inl (by decide)))) ev_c)) ev_c (by decide)) fun H7 e7 => ?_
        refine s_app (e7 l _ h6) (ev_var rfl) (ev_mod (ev_mod (ev_int1 (ev_add (ev_mul (ev_var rfl) ev_c (.inr (by decide))) (ev_var rfl))) ev_c (by decide)) ev_c (by decide)) (by rw [List.length_map]; omega) fun H8 e8 => ?_
        exact ⟨by rw [upd_ne hpl]; exact (e7.trans e8) p _ hp6, _, _, ms' ++ [_], rfl, Ex.mut ((e6.trans e7).trans e8) hl, by rw [List.map_append]; exact upd_same, by rw [List.length_append, h7]; rfl, snocP h8 (by omega)⟩
      · rintro σ H6 ⟨hp6, m, z4, ms', rfl, e6, h6, h7, h8⟩
        exact ⟨⟨hpl, hp6⟩, _, _, _, _, ms', rfl, e6, h6, by have : (10 : Int).toNat = 10 := rfl; omega, h8⟩
  · rintro p σ H' ⟨hp, z2, z3, z4, z5, ms, rfl, e2, h2, h3, h4⟩
    have hlen : ((ns.take 63).map V.int).length ≤ 63 := by rw [List.length_map, List.length_take]; omega
    refine q_when (et_test (ev_eq (ev_len (ev_var rfl) (sq_of h2)) ev_c rfl)) (fun hc H3 e3 => ?_) (fun hc H3 e3 => ?_)
    · refine s_app (e3 l _ h2) (ev_var rfl) ev_c (by rw [List.length_map]; omega) fun H4 e4 => ?_
      exact s_ret (ev_var rfl) fun H5 e5 => k _ _ ((Ex.mut ((e2.trans e3).trans e4) hl).trans e5) ⟨ms ++ [0], by rw [List.length_append]; simp; omega, snocP h4 (by omega), l, rfl, by rw [List.map_append]; exact e5 l _ upd_same⟩
    · have h0 := of_decide_eq_false hc
      rw [List.length_map] at h0
      have h0' : ms.length ≠ 0 := fun z => h0 (by rw [z]; rfl)
      exact s_ret (ev_var rfl) fun H4 e4 => k _ _ (e2.trans (e3.trans e4)) ⟨ms, by omega, h4, l, rfl, (e3.trans e4) l _ h2⟩
def pPick : V → V → V → Hp → VP → Prop := fun x y z H R => ∃ (k : Int) (n : Nat), Pool x H ∧ y = .int k ∧ z = .int (n : Int) ∧ 0 < n ∧ R = fun v _ => ∃ j : Nat, j < n ∧ v = .int (j : Int)
def sp_law_pick (K : PySem.W.Frag) : Sp := spF3 pPick
def t_law_pick (K : PySem.W.Frag) : TS := (tRet (tOp xMod (tCB xInt1 (tCons (tOp (rIxL K) (tVar 0) (tOp xMod (tVar 1) (tCB (rLenS K) (tCons (tVar 0) tNil)))) tNil)) (tVar 2)))
theorem pure_law_pick {K : PySem.W.Frag} {vs : List V} {H : Hp} {Q : VK} {E : XK} (h : sp_law_pick K vs H Q E) : t_law_pick K { nx := fun _ H' => Q .non H', rt := Q } (start ["numbers", "at", "many"] vs) H := by
  obtain ⟨x, y, z, R, rfl, ⟨kk, n, ⟨l, hl, hb, p, rfl, hp⟩, rfl, rfl, hn, rfl⟩, k⟩ := h
  obtain ⟨i, hi2, hi1⟩ := modN kk hl.1
  rw [← List.length_map (f := V.int)] at hi1
  obtain ⟨j, hj1, hj2⟩ := modN (l.getD i 0) hn
  refine s_ret (ev_mod (ev_int1 (ev_ints (i := i) (ev_var rfl) (ev_mod (ev_var rfl) (ev_len (ev_var rfl) (sq_of hp)) (by rw [List.length_map]; omega)) hi1 (sq_of hp) hi2)) (ev_var rfl) (by omega)) fun H1 e1 => k _ _ e1 ⟨j, hj1, congrArg V.int hj2⟩
def pTwo : V → Hp → VP → Prop := fun x H R => ∃ n : Nat, x = .int (n : Int) ∧ n ≤ 90000 ∧ R = fun v _ => v = .int (2 ^ n)
def sp_law_two (K : PySem.W.Frag) : Sp := spF1 pTwo
def t_law_two (K : PySem.W.Frag) : TS := (tSeq (tAsg (tC (.int 1)) (gName 1))
    (tSeq (tFor (iRng1 (tCons (tVar 0) tNil)) (gName 2) (tAsg (tOp xMul (tVar 1) (tC (.int 2))) (gName 1)))
    (tRet (tVar 1))))
theorem pure_law_two {K : PySem.W.Frag} {vs : List V} {H : Hp} {Q : VK} {E : XK} (h : sp_law_two K vs H Q E) : t_law_two K { nx := fun _ H' => Q .non H', rt := Q } (start ["count", "value", "k"] vs) H := by
  obtain ⟨x, R, rfl, ⟨n, rfl, hn, rfl⟩, k⟩ := h
  refine q_asg ev_c fun H1 e1 => ?_
  refine q_forR1 (ea_cons (ev_var rfl) ea_nil) ⟨by omega, by omega⟩ (fun i σ H' => ∃ z : Option V, σ = [some (.int (n : Int)), some (.int (2 ^ i)), z] ∧ Ex H H') (fun H2 e2 => ⟨none, rfl, e1.trans e2⟩) ?_ ?_
  · rintro i σ H' hi ⟨z, rfl, e2⟩
    refine s_asg (v := .int (2 ^ (i + 1))) (ev_is (ev_mul (ev_var rfl) ev_c (.inr (by decide))) (congrArg V.int (Int.pow_succ 2 i).symm)) fun H3 e3 => ⟨_, rfl, e2.trans e3⟩
  · rintro σ H' ⟨z, rfl, e2⟩
    exact s_ret (ev_var rfl) fun H3 e3 => k _ _ (e2.trans e3) (by rw [Int.toNat_natCast])
end Sk

set_option Elab.async false
set_option linter.all false
set_option maxRecDepth 100000
set_option maxHeartbeats 2000000
namespace Sk
open PySem L2 Evl
section
variable {K : PySem.W.Frag} {σ : L2.St} {H : Hp} {te tl : TE} {a j : Nat} {p : Addr} {ys : List V}
theorem wipe1 {σ : L2.St} {j : Nat} : wipe σ [j] = σ.set j none := rfl
theorem wipe_one {σ : L2.St} {j : Nat} {x : V} : wipe ((wipe σ [j]).set j (some x)) [j] = wipe σ [j] := by
  rw [wipe1, wipe1, List.set_set, List.set_set]
theorem er_of_el {xs : List V} (h : EvL te σ H xs) : ER te σ H (fun v H2 => ∃ p, v = .ref p ∧ H2 p = some (.lst xs)) := fun H1 e Q q => h H1 e Q fun p H2 _ e2 h2 => q _ H2 e2 ⟨p, rfl, h2⟩
theorem given_all (n : Nat) (v : Nat → V) : given n (fun _ => true) v = (List.range n).map v := by
  unfold given
  rw [List.filter_eq_self.mpr fun _ _ => rfl]
theorem rev_at {ys : List V} {i : Nat} (h : i < ys.length) : ys[ys.length - 1 - i]? = ys.reverse[i]? := by
  rw [List.getElem?_reverse h]
theorem range_map {ys : List V} : (List.range ys.length).map (fun i => ys.getD i .non) = ys := by
  apply List.ext_getElem?
  intro i
  rw [List.getElem?_map]
  rcases Nat.lt_or_ge i ys.length with h | h
  · rw [List.getElem?_range h, Option.map_some, List.getD_eq_getElem?_getD, List.getElem?_eq_getElem h]; rfl
  · rw [List.getElem?_eq_none h, List.getElem?_eq_none (by rw [List.length_range]; exact h)]; rfl
/-- [xs[len(xs) - 1 - k] for k in range(len(xs))] -/
theorem el_revIx (hv : σ[a]? = some (some (.ref p))) (hs : SqL K H p ys) (hz : ys.length ≤ 40000) (hj : j < σ.length) (haj : a ≠ j) :
    EvL (tLc (iRng1 (tCons (tCB (rLenS K) (tCons (tVar a) tNil)) tNil)) (gName j) tYes (tOp (rIxL K) (tVar a) (tOp xSub (tOp xSub (tCB (rLenS K) (tCons (tVar a) tNil)) (tC (.int 1))) (tVar j))) [j]) σ H ys.reverse := by
  have h := el_lcR1 (t := tYes) (vs := [j]) (j := j) (ta := tCons (tCB (rLenS K) (tCons (tVar a) tNil)) tNil) (te := tOp (rIxL K) (tVar a) (tOp xSub (tOp xSub (tCB (rLenS K) (tCons (tVar a) tNil)) (tC (.int 1))) (tVar j))) (n := (ys.length : Int)) (σ := σ) (H := H) (fun _ => true) (fun i => ys.reverse.getD i .non)
    (ea_cons (ev_len (ev_var hv) hs) ea_nil) ⟨by omega, by omega⟩ (fun x => wipe_one) (fun i H1 e h => fun H2 _ Q q => q H2 (Ex.refl H2)) (fun i H1 e hi _ => by
      have h1 : ((wipe σ [j]).set j (some (.int (i : Int))))[a]? = some (some (.ref p)) := by
        rw [wipe1, List.set_set, List.getElem?_set_ne (Ne.symm haj)]
        exact hv
      have h2 : ((wipe σ [j]).set j (some (.int (i : Int))))[j]? = some (some (.int (i : Int))) := by
        rw [wipe1, List.set_set]
        exact List.getElem?_set_self hj
      refine ev_at (k := (ys.length : Int) - 1 - i) (ev_var h1) (ev_sub (ev_sub (ev_len (ev_var h1) (ex_l e hs)) ev_c) (ev_var h2)) (ex_l e hs) ?_
      have hi' : i < ys.length := by omega
      have e1 : (ys.length : Int) - 1 - (i : Int) = ((ys.length - 1 - i : Nat) : Int) := by omega
      rw [e1]
      refine atI_nat ?_
      rw [rev_at hi', List.getD_eq_getElem?_getD, List.getElem?_eq_getElem (by rw [List.length_reverse]; exact hi')] <;> rfl)
  rw [given_all, Int.toNat_natCast, ← List.length_reverse, range_map] at h
  exact h
end
/-! ### the law's number of an integer -/
def pLawOf (K : PySem.W.Frag) (d : Nat) : V → Hp → VP → Prop := fun x H R => ∃ n : Int, x = .int n ∧ n.natAbs < Cb d ∧ d ≤ 7 ∧ n.natAbs ≤ 2 ^ 3090 ∧ R = fun v H' => NumV K H' v (toT n)
def sp_law_of (K : PySem.W.Frag) (d : Nat) : Sp := spF1 (pLawOf K d)
def t_law_of (K : PySem.W.Frag) (d : Nat) : TS := (tSeq (tAsg (tLst tNil) (gName 1))
    (tSeq (tAsg (tC (.int 0)) (gName 2))
    (tSeq (tAsg (tVar 0) (gName 3))
    (tSeq (tFor (iRng1 (tCons (tC (.int 3100)) tNil)) (gName 4) (tSeq (tIfS (tTest (tOp rEq (tVar 3) (tC (.int 0)))) tBreak tNext)
    (tSeq (tIfS (tTest (tOp rEq (tOp xMod (tCB xInt1 (tCons (tVar 3) tNil)) (tC (.int 2))) (tC (.int 1)))) (tSeq (tAsg (tOp xSub (tC (.int 2)) (tOp xMod (tCB xInt1 (tCons (tVar 3) tNil)) (tC (.int 4)))) (gName 5))
    (tSeq (tDrop (tBM K "list" rAppend (tVar 1) (tCons (tTup (tCons (tVar 5) (tCons (tCall (sp_law_of K d) [] E0 (tCons (tVar 2) tNil)) tNil))) tNil)))
    (tAsg (tOp xSub (tVar 3) (tVar 5)) (gName 3)))) tNext)
    (tSeq (tAsg (tOp xFdiv (tVar 3) (tC (.int 2))) (gName 3))
    (tAsg (tOp xAdd (tVar 2) (tC (.int 1))) (gName 2))))))
    (tRet (tThen (tLc (iRng1 (tCons (tCB (rLenS K) (tCons (tVar 1) tNil)) tNil)) (gName 4) tYes (tOp (rIxL K) (tVar 1) (tOp xSub (tOp xSub (tCB (rLenS K) (tCons (tVar 1) tNil)) (tC (.int 1))) (tVar 4))) [4]) (kTup K)))))))
theorem naf_ne {n : Int} {p : Nat} (h : n ≠ 0) : naf n p ≠ [] := fun z => by
  have := naf_sum _ n (Nat.le_refl _) p
  rw [z] at this
  have h1 : n * 2 ^ p = 0 := this.symm
  have h2 : (2 : Int) ^ p > 0 := Int.pow_pos (by decide)
  rcases Int.mul_eq_zero.mp h1 with h | h
  · contradiction
  · omega
theorem pure_law_of {K : PySem.W.Frag} {d : Nat} {vs : List V} {H : Hp} {Q : VK} {E : XK} (h : sp_law_of K (d + 1) vs H Q E) : t_law_of K d { nx := fun _ H' => Q .non H', rt := Q } (start ["value", "terms", "place", "rest", "k", "sign"] vs) H := by
  obtain ⟨x, R, rfl, ⟨n, rfl, hb, hd, hn, rfl⟩, k⟩ := h
  have hlen := naf_len _ n 0 hn
  let RT : Int × Nat → VP := fun x => TermI K (x.1, toT (x.2 : Int))
  have mRT : ∀ x, MonoT (RT x) := fun x => termI _
  refine q_asgL (el_lst ea_nil (by decide)) fun l H1 hl e1 h1 => ?_
  refine q_asg ev_c fun H2 e2 => ?_
  refine q_asg (ev_var rfl) fun H3 e3 => ?_
  have fin : ∀ (σ : L2.St) (H' : Hp) (z3 : Int) (pl : Nat) (z5 : Option V) (z4 : Option V) (ys : List V), σ = [some (.int n), some (.ref l), some (.int (pl : Int)), some (.int z3), z4, z5] → Ex H H' → H' l = some (.lst ys) → ItemsR RT (naf n 0) ys H' →
      tRet (tThen (tLc (iRng1 (tCons (tCB (rLenS K) (tCons (tVar 1) tNil)) tNil)) (gName 4) tYes (tOp (rIxL K) (tVar 1) (tOp xSub (tOp xSub (tCB (rLenS K) (tCons (tVar 1) tNil)) (tC (.int 1))) (tVar 4))) [4]) (kTup K)) { nx := fun _ H' => Q .non H', rt := Q } σ H' := by
    rintro σ H' z3 pl z5 z4 ys rfl e h4 h5
    have hy : ys.length ≤ 40000 := by rw [h5.1]; omega
    refine s_retR (er_tupleOf (R := fun zs H2 => ItemsR (TermI K) ((naf n 0).reverse.map fun x : Int × Nat => (x.1, toT (x.2 : Int))) zs H2) ((er_of_el (el_revIx (ys := ys) (p := l) rfl (sq_of h4) hy (by show 4 < 6; omega) (by decide))).imp ?_) (fun zs H1 H2 e h => h.tex termI (Ex.t e))) fun v H6 e6 ⟨p, zs, hv, g1, g2⟩ => k v H6 (e.trans e6) ?_
    · rintro v H6 e6 ⟨p, rfl, hp⟩
      refine ⟨p, _, rfl, sq_of hp, ?_⟩
      have h6 := (h5.tex mRT (Ex.t e6)).rev
      refine ⟨by rw [List.length_map]; exact h6.1, fun i y a g1 g2 => ?_⟩
      rw [List.getElem?_map] at g2
      cases hq : (naf n 0).reverse[i]? with
      | none => rw [hq] at g2; cases g2
      | some z => rw [hq] at g2; cases g2; exact h6.2 i y z g1 hq
    · rw [hv, toT_eq]
      exact NumV.mk (st_of g1) (terms_items g2)
  refine q_forR1 (ea_cons ev_c ea_nil) ⟨by decide, by decide⟩ (fun i σ H' => ∃ (r : Int) (z4 z5 : Option V) (ys : List V) (acc : List (Int × Nat)), σ = [some (.int n), some (.ref l), some (.int (i : Int)), some (.int r), z4, z5] ∧ Ex H H' ∧ H' l = some (.lst ys) ∧ ItemsR RT acc ys H' ∧ acc ++ naf r i = naf n 0)
    (fun H4 e4 => ⟨n, none, none, [], [], rfl, ((e1.trans e2).trans e3).trans e4, (e2.trans (e3.trans e4)) l _ h1, .nil, rfl⟩) ?_ ?_
  · rintro i σ H' hi ⟨r, z4, z5, ys, acc, rfl, e4, h4, h5, h6⟩
    have hys : ys.length < 100000 := by
      have := congrArg List.length h6
      rw [List.length_append, ← h5.1] at this
      omega
    refine q_when (et_test (ev_eq (ev_var rfl) ev_c rfl)) (fun hc H5 e5 => ?_) (fun hc H5 e5 => ?_)
    · have hr : r = 0 := by simpa using hc
      subst hr
      rw [naf_zero, List.append_nil] at h6
      subst h6
      exact fin _ H5 0 i z5 _ ys rfl (e4.trans e5) (e5 l _ h4) (h5.tex mRT (Ex.t e5))
    · have hr : r ≠ 0 := by simpa using hc
      refine q_when (et_test (ev_eq (ev_mod (ev_int1 (ev_var rfl)) ev_c (by decide)) ev_c rfl)) (fun hc2 H6 e6 => ?_) (fun hc2 H6 e6 => ?_)
      · have hodd : r % 2 = 1 := by simpa using hc2
        refine q_asg (ev_sub ev_c (ev_mod (ev_int1 (ev_var rfl)) ev_c (by decide))) fun H7 e7 => ?_
        have e47 := (e5.trans (e6.trans e7))
        have hm : (2 - r % 4, i) ∈ naf n 0 := by rw [← h6, naf_odd hodd]; exact List.mem_append.mpr (.inr List.mem_cons_self)
        have hp : ((i : Nat) : Int).natAbs < Cb d := by have := Cb_step hb hm; simpa using this
        refine q_appR (R := RT (2 - r % 4, i)) (e47 l _ h4) (ev_var rfl) ((er_tup (ea_two (R := fun v _ => v = .int (2 - r % 4)) (R' := fun v H2 => NumV K H2 v (toT (i : Int))) (er_is (ev_var rfl)) monoC (er_call1 (R1 := fun v _ => v = .int (i : Int)) (er_is (ev_var rfl)) monoC fun v H2 e2 hv => ⟨i, hv, hp, by omega, by simp; exact Nat.le_trans (naf_le hn hm) (Nat.le_of_lt Nat.lt_two_pow_self), rfl⟩) (numT.mono))
          (fun vs H2 H3 e ⟨v, w, h1, h2, h3⟩ => ⟨v, w, h1, h2, h3.ex e⟩) (fun vs H2 ⟨v, w, h1, _⟩ => by rw [h1]; show 2 ≤ 100000; omega)).imp fun v H8 e8 ⟨q, ws, hv, g1, u, w, g2, g3, g4⟩ => ⟨q, w, hv, st_of (by rw [g1, g2, g3]), g4⟩) hys fun v H8 e8 hv => ?_
        refine s_asg (ev_sub (ev_var rfl) (ev_var rfl)) fun H9 e9 => ?_
        have e48 := e47.trans e8
        have ht : TEx H8 (upd H8 l (.lst (ys ++ [v]))) := TEx.put (e48 l _ h4)
        refine q_asg (ev_fdiv (ev_var rfl) ev_c ⟨by decide, by decide⟩) fun H10 e10 => ?_
        refine s_asg (ev_add (ev_var rfl) ev_c) fun H11 e11 => ?_
        have e911 := e9.trans (e10.trans e11)
        refine ⟨(r - (2 - r % 4)) / 2, _, _, ys ++ [v], acc ++ [(2 - r % 4, i)], rfl, (Ex.mut (e4.trans e48) hl).trans e911, e911 l _ upd_same, ((h5.tex mRT ((Ex.t e48).trans ht)).snoc (mRT _ v _ _ ht hv)).tex mRT (Ex.t e911), ?_⟩
        rw [← h6, naf_odd hodd, List.append_assoc] <;> rfl
      · have hev : r % 2 = 0 := by
          have : r % 2 ≠ 1 := by simpa using hc2
          omega
        refine q_asg (ev_fdiv (ev_var rfl) ev_c ⟨by decide, by decide⟩) fun H10 e10 => ?_
        refine s_asg (ev_add (ev_var rfl) ev_c) fun H11 e11 => ?_
        have e411 := e5.trans (e6.trans (e10.trans e11))
        exact ⟨r / 2, _, _, ys, acc, rfl, e4.trans e411, e411 l _ h4, h5.tex mRT (Ex.t e411), by rw [← h6, naf_even hev]⟩
  · rintro σ H' ⟨r, z4, z5, ys, acc, rfl, e4, h4, h5, h6⟩
    have hr : r = 0 := by
      apply Classical.byContradiction
      intro hr
      obtain ⟨x, hx⟩ := List.exists_mem_of_ne_nil _ (naf_ne (p := (3100 : Int).toNat) hr)
      have g1 := (naf_mem_ge _ r (Nat.le_refl _) _ x hx).1
      have g2 := naf_le hn (x := x) (by rw [← h6]; exact List.mem_append.mpr (.inr hx))
      have g3 : (3100 : Int).toNat = 3100 := rfl
      omega
    subst hr
    rw [naf_zero, List.append_nil] at h6
    subst h6
    exact fin _ H' 0 _ z5 _ ys rfl e4 h4 h5
theorem vac_law_of {K : PySem.W.Frag} {vs : List V} {H : Hp} {Q : VK} {E : XK} (h : sp_law_of K 0 vs H Q E) : False := by obtain ⟨x, R, _, ⟨n, _, h, _⟩, _⟩ := h; exact Nat.not_lt_zero _ h
end Sk

set_option Elab.async false
set_option linter.all false
set_option maxRecDepth 100000
set_option maxHeartbeats 2000000
namespace Sk
open PySem L2 Evl
section
variable {K : PySem.W.Frag} {σ : L2.St} {H : Hp} {te tl : TE} {a j : Nat}
/-- a comprehension over the terms of a number, ints made of the exponents -/
theorem er_exps {x : V} {t : T} {f : T → Int} (hv : σ[a]? = some (some x)) (hx : NumV K H x t) (hz : t.toL.length < 100000) (hj : j < σ.length)
    (hb : ∀ (s : Int) (e : T) (q : Addr) (w : V) (H1 : Hp), (s, e) ∈ t.toL → SqT K H1 q [.int s, w] → NumV K H1 w e → Ev te ((wipe σ [j]).set j (some (.ref q))) H1 (.int (f e))) :
    ER (tLc (iTup K (tVar a)) (gName j) tYes te [j]) σ H (fun v H2 => ∃ p, v = .ref p ∧ H2 p = some (.lst ((t.toL.map fun x => f x.2).map V.int))) := by
  obtain ⟨b, xs, rfl, h1, h2⟩ := hx.out
  refine (er_lcIT (R1 := TermI K) (R2 := fun x : Int × T => IntI (f x.2)) (l := t.toL) (er_ev (ev_var hv) fun H1 e => ⟨b, xs, rfl, ex_t e h1, items_terms (h2.ex e)⟩) (fun x => (termI x).mono) (fun x => intI _) hz ?_).imp ?_
  · rintro i ⟨s, e⟩ x H1 hi ⟨q, w, rfl, g1, g2⟩ e1 Qk kk
    exact ⟨wipe_one, hb s e q w H1 (List.mem_of_getElem? hi) g1 g2 H1 (Ex.refl _) _ fun H2 e2 => kk _ _ e2 rfl⟩
  · rintro v H1 e1 ⟨p, ys, rfl, _, g1, g2⟩
    refine ⟨p, rfl, ?_⟩
    rw [g1]
    have h3 : ItemsR IntI (t.toL.map fun x => f x.2) ys H1 := ⟨by rw [List.length_map]; exact g2.1, fun i y a k1 k2 => by
      rw [List.getElem?_map] at k2
      cases hq : t.toL[i]? with
      | none => rw [hq] at k2; cases k2
      | some z => rw [hq] at k2; cases k2; exact g2.2 i y z k1 hq⟩
    rw [h3.ints]
theorem er_catL {xs zs : List V} (h : EvL te σ H xs) (h' : ER tl σ H (fun v H2 => ∃ p, v = .ref p ∧ H2 p = some (.lst zs))) (hz : xs.length + zs.length ≤ 100000) : ER (tOp rCat te tl) σ H (fun v H2 => ∃ p, v = .ref p ∧ H2 p = some (.lst (xs ++ zs))) := fun H1 e Q q =>
  h H1 e _ fun p1 H2 _ e2 h2 => h' H2 (e.trans e2) _ fun v H3 e3 ⟨p, hv, hp⟩ => ⟨p1, p, xs, zs, rfl, hv, e3 p1 _ h2, hp, sz_of hz, fun r hr => q _ _ ((e2.trans e3).trans (Ex.new hr)) ⟨r, rfl, upd_same⟩⟩
theorem ev_maxL {l : List Int} {m : Int} (h : ER te σ H (fun v H2 => ∃ p, v = .ref p ∧ H2 p = some (.lst (l.map V.int)))) (hm : m ∈ l) (hle : ∀ y ∈ l, y ≤ m) : Ev (tCB (rMax K) (tCons te tNil)) σ H (.int m) := fun H1 e Q q =>
  h H1 e _ fun v H2 e2 ⟨p, hv, hp⟩ => ⟨p, l, by rw [hv], sq_of hp, List.length_pos_of_mem hm, fun m' h1 h2 => by
    have : m' = m := Int.le_antisymm (hle _ h1) (h2 _ hm)
    rw [this]; exact q H2 e2⟩
end
theorem size_toLI : ∀ t : T, (t.size : Int) = 1 + (t.toL.map fun x => (x.2.size : Int)).sum
  | .nil => rfl
  | .cons s e r => by
    have := size_toLI r
    rw [T.toL, List.map_cons, List.sum_cons]
    show ((e.size + r.size : Nat) : Int) = 1 + ((e.size : Int) + _)
    omega
theorem height_toL : ∀ (t : T), (∀ y ∈ (0 : Int) :: t.toL.map fun x => 1 + (x.2.height : Int), y ≤ (t.height : Int)) ∧ (t.height : Int) ∈ (0 : Int) :: t.toL.map fun x => 1 + (x.2.height : Int)
  | .nil => ⟨fun y h => by rcases List.mem_singleton.mp h with rfl; exact Int.le_refl _, List.mem_cons_self⟩
  | .cons s e r => by
    obtain ⟨h1, h2⟩ := height_toL r
    have e1 : (T.cons s e r).height = max (e.height + 1) r.height := rfl
    rw [e1, T.toL, List.map_cons]
    refine ⟨fun y hy => ?_, ?_⟩
    · rcases List.mem_cons.mp hy with rfl | hy
      · omega
      rcases List.mem_cons.mp hy with rfl | hy
      · show 1 + (e.height : Int) ≤ _; omega
      · have := h1 y (List.mem_cons_of_mem _ hy); omega
    · rcases Nat.le_total (e.height + 1) r.height with h | h
      · rw [Nat.max_eq_right h]
        rcases List.mem_cons.mp h2 with h2 | h2
        · rw [h2]; exact List.mem_cons_self
        · exact List.mem_cons_of_mem _ (List.mem_cons_of_mem _ h2)
      · rw [Nat.max_eq_left h]
        refine List.mem_cons_of_mem _ (List.mem_cons.mpr (.inl ?_))
        show ((e.height + 1 : Nat) : Int) = 1 + (e.height : Int)
        omega
def pLawSize (K : PySem.W.Frag) (d : Nat) : V → Hp → VP → Prop := fun x H R => ∃ t : T, NumV K H x t ∧ t.size < 100000 ∧ t.height < d ∧ R = fun v _ => v = .int (t.size : Int)
def sp_law_size (K : PySem.W.Frag) (d : Nat) : Sp := spF1 (pLawSize K d)
def t_law_size (K : PySem.W.Frag) (d : Nat) : TS := (tRet (tOp xAdd (tC (.int 1)) (tCB (rSum K) (tCons (tLc (iTup K (tVar 0)) (gName 1) tYes (tCall (sp_law_size K d) [] E0 (tCons (tOp (rIxT K) (tVar 1) (tC (.int 1))) tNil)) [1]) tNil))))
theorem ev_ix1 {K : PySem.W.Frag} {σ : L2.St} {H : Hp} {q : Addr} {s : Int} {w : V} {i : Nat} (h : σ[i]? = some (some (.ref q))) (hs : SqT K H q [.int s, w]) : Ev (tOp (rIxT K) (tVar i) (tC (.int 1))) σ H w := ev_atT (ev_var h) ev_c hs rfl
theorem pure_law_size {K : PySem.W.Frag} {d : Nat} {vs : List V} {H : Hp} {Q : VK} {E : XK} (h : sp_law_size K (d + 1) vs H Q E) : t_law_size K d { nx := fun _ H' => Q .non H', rt := Q } (start ["number", "term"] vs) H := by
  obtain ⟨x, R, rfl, ⟨t, hx, hsz, hd, rfl⟩, k⟩ := h
  refine s_ret (ev_add ev_c (ev_sum (l := t.toL.map fun x => (x.2.size : Int)) ((er_exps (f := fun e => (e.size : Int)) rfl hx (Nat.lt_trans (len_size t) hsz) (by show 1 < 2; omega) ?_).imp ?_))) fun H1 e1 => k _ _ e1 (congrArg V.int (size_toLI t).symm)
  · intro s e q w H1 hm hq hw
    have hsz2 : e.size < t.size ∧ e.height < t.height := mem_size hm
    exact ev_er (er_call1 (R1 := fun v _ => v = w) (er_is (ev_ix1 rfl hq)) monoC fun v H2 e2 hv => ⟨e, by rw [hv]; exact hw.ex e2, by omega, by omega, rfl⟩)
  · rintro v H1 e1 ⟨p, rfl, hp⟩
    exact ⟨p, _, rfl, sq_of hp, by rw [List.length_map], fun i y a g1 g2 => by
      rw [List.getElem?_map, g2] at g1
      cases g1; rfl⟩
def pLawHeight (K : PySem.W.Frag) (d : Nat) : V → Hp → VP → Prop := fun x H R => ∃ t : T, NumV K H x t ∧ t.size < 100000 ∧ t.height < d ∧ R = fun v _ => v = .int (t.height : Int)
def sp_law_height (K : PySem.W.Frag) (d : Nat) : Sp := spF1 (pLawHeight K d)
def t_law_height (K : PySem.W.Frag) (d : Nat) : TS := (tRet (tCB (rMax K) (tCons (tOp rCat (tLst (tCons (tC (.int 0)) tNil)) (tLc (iTup K (tVar 0)) (gName 1) tYes (tOp xAdd (tC (.int 1)) (tCall (sp_law_height K d) [] E0 (tCons (tOp (rIxT K) (tVar 1) (tC (.int 1))) tNil))) [1])) tNil)))
theorem pure_law_height {K : PySem.W.Frag} {d : Nat} {vs : List V} {H : Hp} {Q : VK} {E : XK} (h : sp_law_height K (d + 1) vs H Q E) : t_law_height K d { nx := fun _ H' => Q .non H', rt := Q } (start ["number", "term"] vs) H := by
  obtain ⟨x, R, rfl, ⟨t, hx, hsz, hd, rfl⟩, k⟩ := h
  obtain ⟨h1, h2⟩ := height_toL t
  have hl := Nat.lt_trans (len_size t) hsz
  refine s_ret (v := .int (t.height : Int)) (ev_maxL (l := (0 : Int) :: t.toL.map fun x => 1 + (x.2.height : Int)) ((er_catL (xs := [.int 0]) (el_lst (ea_cons ev_c ea_nil) (by decide)) (er_exps (f := fun e => 1 + (e.height : Int)) rfl hx hl (by show 1 < 2; omega) ?_) (by simp; omega)).imp fun v H2 e h => h) h2 h1) fun H1 e1 => k _ _ e1 rfl
  intro s e q w H1 hm hq hw
  have hsz2 : e.size < t.size ∧ e.height < t.height := mem_size hm
  exact ev_add ev_c (ev_er (er_call1 (R1 := fun v _ => v = w) (er_is (ev_ix1 rfl hq)) monoC fun v H2 e2 hv => ⟨e, by rw [hv]; exact hw.ex e2, by omega, by omega, rfl⟩))
def pLawFits (K : PySem.W.Frag) : V → Hp → VP → Prop := fun x H R => ∃ t : T, NumV K H x t ∧ t.size < 100000 ∧ t.height < 45 ∧ R = fun v _ => v = .bl (decide t.fits)
def sp_law_fits (K : PySem.W.Frag) : Sp := spF1 (pLawFits K)
def t_law_fits (K : PySem.W.Frag) : TS := (tRet (tAndV (tOp xLe (tCall (sp_law_size K 45) [] E0 (tCons (tVar 0) tNil)) (tC (.int 300))) (tOp xLe (tCall (sp_law_height K 45) [] E0 (tCons (tVar 0) tNil)) (tC (.int 40)))))
theorem pure_law_fits {K : PySem.W.Frag} {vs : List V} {H : Hp} {Q : VK} {E : XK} (h : sp_law_fits K vs H Q E) : t_law_fits K { nx := fun _ H' => Q .non H', rt := Q } (start ["number"] vs) H := by
  obtain ⟨x, R, rfl, ⟨t, hx, hsz, hd, rfl⟩, k⟩ := h
  refine s_ret (ev_andV (ev_le (ev_er (er_call1 (R1 := fun v H => NumV K H v t) (er_var rfl fun H1 e1 => hx.ex e1) numT.mono fun v H2 e2 hv => ⟨t, hv, hsz, hd, rfl⟩)) ev_c) fun _ => ev_le (ev_er (er_call1 (R1 := fun v H => NumV K H v t) (er_var rfl fun H1 e1 => hx.ex e1) numT.mono fun v H2 e2 hv => ⟨t, hv, hsz, hd, rfl⟩)) ev_c) fun H1 e1 => k _ _ e1 ?_
  show V.bl _ = V.bl _
  congr 1
  rw [Bool.eq_iff_iff, Bool.and_eq_true, decide_eq_true_eq, decide_eq_true_eq, decide_eq_true_eq]
  unfold T.fits
  omega
theorem vac_law_size {K : PySem.W.Frag} {vs : List V} {H : Hp} {Q : VK} {E : XK} (h : sp_law_size K 0 vs H Q E) : False := by obtain ⟨x, R, _, ⟨t, _, _, h, _⟩, _⟩ := h; exact Nat.not_lt_zero _ h
theorem vac_law_height {K : PySem.W.Frag} {vs : List V} {H : Hp} {Q : VK} {E : XK} (h : sp_law_height K 0 vs H Q E) : False := by obtain ⟨x, R, _, ⟨t, _, _, h, _⟩, _⟩ := h; exact Nat.not_lt_zero _ h
end Sk

set_option Elab.async false
set_option linter.all false
set_option maxRecDepth 100000
set_option maxHeartbeats 2000000
namespace Sk
open PySem L2 Evl
/-! ### counts at exponents, carried upwards -/
/-- what stands at the next exponent, if it is the very next -/
def nextC (ws : List Nat) (cf : Nat → Int) (at' ex : Nat) : Int := if ws[at']? = some ex then cf ex else 0
def restA (ws : List Nat) (cf : Nat → Int) (k : Nat) : Nat := ((ws.drop k).map fun w => (cf w).natAbs + 2).sum
def restV (ws : List Nat) (cf : Nat → Int) (k : Nat) : Int := ((ws.drop k).map fun w => cf w * 2 ^ w).sum
/-- ahead of a turn -/
structure RowsI (ws : List Nat) (cf : Nat → Int) (V : Int) (P M i at' ex : Nat) (c : Int) (rows : List (Int × Nat)) : Prop where
  le : at' ≤ ws.length
  up : ∀ j w, at' ≤ j → ws[j]? = some w → ex ≤ w
  gap : rows.Pairwise (fun x y => x.2 + 2 ≤ y.2)
  sg : ∀ x ∈ rows, x.1 = 1 ∨ x.1 = -1
  last : ∀ x ∈ rows, x.2 + 2 ≤ ex ∨ (x.2 + 1 = ex ∧ (c + nextC ws cf at' ex) % 2 = 0)
  val : sumP rows + c * 2 ^ ex + restV ws cf at' = V
  pot : 2 * (restA ws cf at' + c.natAbs) + (if ws[at']? = some ex then 0 else 1) + i ≤ P
  ht : ex ≤ M + i
  len : rows.length ≤ i
/-- within a turn, behind the next count was taken -/
structure RowsM (ws : List Nat) (cf : Nat → Int) (V : Int) (P M i at' ex : Nat) (c : Int) (rows : List (Int × Nat)) : Prop where
  le : at' ≤ ws.length
  up : ∀ j w, at' ≤ j → ws[j]? = some w → ex + 1 ≤ w
  gap : rows.Pairwise (fun x y => x.2 + 2 ≤ y.2)
  sg : ∀ x ∈ rows, x.1 = 1 ∨ x.1 = -1
  last : ∀ x ∈ rows, x.2 + 2 ≤ ex ∨ (x.2 + 1 = ex ∧ c % 2 = 0)
  val : sumP rows + c * 2 ^ ex + restV ws cf at' = V
  pot : 2 * (restA ws cf at' + c.natAbs) + 4 + i ≤ P ∨ (2 * (restA ws cf at' + c.natAbs) + 1 + i ≤ P ∧ c ≠ 0)
  ht : ex ≤ M + i
  len : rows.length ≤ i
section
variable {ws : List Nat} {cf : Nat → Int} {V c : Int} {P M i at' ex : Nat} {rows : List (Int × Nat)}
theorem restV_step {w : Nat} (h : ws[at']? = some w) : restV ws cf at' = cf w * 2 ^ w + restV ws cf (at' + 1) := by
  obtain ⟨h1, h2⟩ := List.getElem?_eq_some_iff.mp h
  unfold restV
  rw [List.drop_eq_getElem_cons h1, List.map_cons, List.sum_cons, h2]
theorem restA_step {w : Nat} (h : ws[at']? = some w) : restA ws cf at' = (cf w).natAbs + 2 + restA ws cf (at' + 1) := by
  obtain ⟨h1, h2⟩ := List.getElem?_eq_some_iff.mp h
  unfold restA
  rw [List.drop_eq_getElem_cons h1, List.map_cons, List.sum_cons, h2]
theorem RowsI.zero (hC : 2 * restA ws cf 0 + 1 ≤ P) : RowsI ws cf (restV ws cf 0) P M 0 0 0 0 [] := by
  refine ⟨Nat.zero_le _, fun _ _ _ _ => Nat.zero_le _, List.Pairwise.nil, (fun x h => by cases h), (fun x h => by cases h), ?_, ?_, Nat.zero_le _, Nat.le_refl _⟩
  · simp [sumP]
  · show 2 * (restA ws cf 0 + 0) + _ + 0 ≤ P
    split <;> omega
/-- the next count is taken -/
theorem RowsI.take (h : RowsI ws cf V P M i at' ex c rows) {w : Nat} (hw : ws[at']? = some w) (hs : ws.Pairwise (· < ·)) (hM : w ≤ M) (hc : c = 0 ∨ w = ex) : RowsM ws cf V P M i (at' + 1) w (c + cf w) rows := by
  obtain ⟨h1, h2⟩ := List.getElem?_eq_some_iff.mp hw
  have hge := h.up at' w (Nat.le_refl _) hw
  have hmul := restA_step (cf := cf) hw
  have hp := h.pot
  refine ⟨h1, fun j v hj hv => ?_, h.gap, h.sg, fun x hx => ?_, ?_, .inl ?_, by omega, h.len⟩
  · obtain ⟨h3, h4⟩ := List.getElem?_eq_some_iff.mp hv
    have := List.pairwise_iff_getElem.mp hs at' j h1 h3 (by omega)
    omega
  · rcases h.last x hx with q | ⟨q1, q2⟩
    · exact .inl (by omega)
    · by_cases e : w = ex
      · subst e
        refine .inr ⟨q1, ?_⟩
        unfold nextC at q2
        rw [if_pos hw] at q2
        exact q2
      · exact .inl (by omega)
  · have hv := h.val
    rw [restV_step hw] at hv
    rcases hc with rfl | rfl
    · rw [Int.zero_mul] at hv
      rw [Int.zero_add]
      omega
    · rw [Int.add_mul]
      omega
  · rw [hmul] at hp
    generalize restA ws cf (at' + 1) = A at *
    split at hp <;> omega
/-- no count is taken -/
theorem RowsI.pass (h : RowsI ws cf V P M i at' ex c rows) (hs : ws.Pairwise (· < ·)) (hc : c ≠ 0) (hn : ws[at']? ≠ some ex) : RowsM ws cf V P M i at' ex c rows := by
  have hp := h.pot
  rw [if_neg hn] at hp
  refine ⟨h.le, fun j v hj hv => ?_, h.gap, h.sg, fun x hx => ?_, h.val, .inr ⟨hp, hc⟩, h.ht, h.len⟩
  · have h1 := h.up j v hj hv
    rcases Nat.lt_or_ge ex v with q | q
    · exact q
    · have e : v = ex := by omega
      subst e
      by_cases ej : j = at'
      · subst ej; exact absurd hv hn
      · obtain ⟨h3, h4⟩ := List.getElem?_eq_some_iff.mp hv
        have h5 := List.pairwise_iff_getElem.mp hs at' j (by omega) h3 (by omega)
        have h6 := h.up at' _ (Nat.le_refl _) (List.getElem?_eq_getElem (show at' < ws.length by omega))
        omega
  · rcases h.last x hx with q | ⟨q1, q2⟩
    · exact .inl q
    · unfold nextC at q2
      rw [if_neg hn, Int.add_zero] at q2
      exact .inr ⟨q1, q2⟩
/-- an even count goes up -/
theorem RowsM.even (h : RowsM ws cf V P M i at' ex c rows) (he : c % 2 = 0) : RowsI ws cf V P M (i + 1) at' (ex + 1) (c / 2) rows := by
  have hp := h.pot
  refine ⟨h.le, h.up, h.gap, h.sg, fun x hx => ?_, ?_, ?_, by have := h.ht; omega, Nat.le_succ_of_le h.len⟩
  · rcases h.last x hx with q | ⟨q1, q2⟩
    · exact .inl (by omega)
    · exact .inl (by omega)
  · rw [← h.val, Int.pow_succ]
    have e : c = 2 * (c / 2) := by omega
    have e2 : c * 2 ^ ex = 2 * (c / 2) * 2 ^ ex := by rw [← e]
    rw [e2]
    have e3 : c / 2 * (2 ^ ex * 2) = 2 * (c / 2) * 2 ^ ex := by rw [Int.mul_comm (2 ^ ex) 2, ← Int.mul_assoc, Int.mul_comm (c / 2) 2]
    rw [e3]
  · generalize restA ws cf at' = A at *
    split <;> omega
theorem RowsM.odd (h : RowsM ws cf V P M i at' ex c rows) (ho : c % 2 = 1) {s : Int} (hs : s = 2 - (c + 2 * nextC ws cf at' (ex + 1)) % 4) : RowsI ws cf V P M (i + 1) at' (ex + 1) ((c - s) / 2) (rows ++ [(s, ex)]) := by
  have hp := h.pot
  have hs' : s = 1 ∨ s = -1 := by omega
  refine ⟨h.le, h.up, ?_, ?_, fun x hx => ?_, ?_, ?_, by have := h.ht; omega, by rw [List.length_append]; exact Nat.succ_le_succ h.len⟩
  · refine List.pairwise_append.mpr ⟨h.gap, List.pairwise_singleton _ _, fun x hx y hy => ?_⟩
    rw [List.mem_singleton.mp hy]
    rcases h.last x hx with q | ⟨q1, q2⟩
    · exact q
    · omega
  · intro x hx
    rcases List.mem_append.mp hx with q | q
    · exact h.sg x q
    · rw [List.mem_singleton.mp q]; exact hs'
  · rcases List.mem_append.mp hx with q | q
    · rcases h.last x q with q | ⟨q1, q2⟩
      · exact .inl (by omega)
      · omega
    · rw [List.mem_singleton.mp q]
      exact .inr ⟨rfl, by omega⟩
  · rw [← h.val, sumP_append, sumP, sumP, Int.pow_succ]
    have e2 : c * 2 ^ ex = s * 2 ^ ex + 2 * ((c - s) / 2) * 2 ^ ex := by
      rw [← Int.add_mul]
      congr 1
      omega
    have e3 : (c - s) / 2 * (2 ^ ex * 2) = 2 * ((c - s) / 2) * 2 ^ ex := by rw [Int.mul_comm (2 ^ ex) 2, ← Int.mul_assoc, Int.mul_comm ((c - s) / 2) 2]
    rw [e2, e3]
    omega
  · unfold nextC at hs
    generalize restA ws cf at' = A at *
    split
    · rename_i q
      rw [if_pos q] at hs
      omega
    · rename_i q
      rw [if_neg q] at hs
      omega
/-- nothing waits -/
theorem RowsI.done (h : RowsI ws cf V P M i ws.length ex 0 rows) : sumP rows = V := by
  have := h.val
  unfold restV at this
  rw [List.drop_length] at this
  simp at this
  exact this
end
end Sk

set_option Elab.async false
set_option linter.all false
set_option maxRecDepth 100000
set_option maxHeartbeats 2000000
namespace Sk
open PySem L2 Evl
/-! ### dicts of counts -/
def dk (l : List (Nat × Int)) : List (Key × V) := l.map fun x => (Sum.inl (x.1 : Int), V.int x.2)
def getC (l : List (Nat × Int)) (k : Nat) : Option Int := (l.find? fun x => decide (x.1 = k)).map Prod.snd
def cfL (l : List (Nat × Int)) (k : Nat) : Int := (getC l k).getD 0
theorem valV_dk (k : Nat) : ∀ l, valV (dk l) (Sum.inl (k : Int)) = (getC l k).map V.int
  | [] => rfl
  | (j, c) :: l => by
    have ih := valV_dk k l
    unfold valV getC dk at *
    rw [List.map_cons, List.find?_cons, List.find?_cons]
    by_cases h : j = k
    · subst h; simp
    · have h2 : ¬ ((j : Int) = (k : Int)) := by omega
      have e1 : decide ((Sum.inl (j : Int) : Key) = Sum.inl (k : Int)) = false := decide_eq_false fun e => h2 (by injection e)
      have e2 : decide (j = k) = false := decide_eq_false h
      simp only [e1, e2]
      exact ih
theorem getC_mem {l : List (Nat × Int)} {k : Nat} {c : Int} (h : getC l k = some c) : (k, c) ∈ l := by
  unfold getC at h
  cases hf : l.find? fun x => decide (x.1 = k) with
  | none => rw [hf] at h; cases h
  | some x =>
    rw [hf] at h
    have h1 := List.mem_of_find?_eq_some hf
    have h2 := List.find?_some hf
    obtain ⟨a, b⟩ := x
    have h3 : a = k := of_decide_eq_true h2
    injection h with h
    have h4 : b = c := h
    rw [← h3, ← h4]; exact h1
theorem getC_none {l : List (Nat × Int)} {k : Nat} (h : getC l k = none) : ∀ x ∈ l, x.1 ≠ k := by
  unfold getC at h
  intro x hx e
  have h1 := Option.map_eq_none_iff.mp h
  have := List.find?_eq_none.mp h1 x hx
  exact this (decide_eq_true e)
/-- the dict's entry is set: keys stay different -/
theorem put_dk (l : List (Nat × Int)) (k : Nat) (c : Int) (hn : (l.map Prod.fst).Nodup) : ∃ l', putK (dk l) (Sum.inl (k : Int)) (.int c) = dk l' ∧ (l'.map Prod.fst).Nodup ∧ (∀ x ∈ l', x ∈ l ∨ x = (k, c)) ∧ l'.length ≤ l.length + 1 ∧
    (∀ g : Nat → Int, (l'.map fun x => x.2 * g x.1).sum = (l.map fun x => x.2 * g x.1).sum + (c - cfL l k) * g k) ∧
    (l'.map fun x => x.2.natAbs).sum + (cfL l k).natAbs ≤ (l.map fun x => x.2.natAbs).sum + c.natAbs := by
  cases h : getC l k with
  | none =>
    have hv : valV (dk l) (Sum.inl (k : Int)) = none := by rw [valV_dk, h]; rfl
    refine ⟨l ++ [(k, c)], by rw [putK_new _ hv]; unfold dk; rw [List.map_append]; rfl, ?_, fun x hx => ?_, by rw [List.length_append]; exact Nat.le_refl _, fun g => ?_, ?_⟩
    · rw [List.map_append]
      refine List.nodup_append.mpr ⟨hn, List.nodup_cons.mpr ⟨List.not_mem_nil, List.nodup_nil⟩, fun x hx y hy => ?_⟩
      obtain ⟨z, hz, rfl⟩ := List.mem_map.mp hx
      have hy' : y = k := by simpa using hy
      rw [hy']
      exact getC_none h z hz
    · rcases List.mem_append.mp hx with q | q
      · exact .inl q
      · exact .inr (List.mem_singleton.mp q)
    · rw [List.map_append, List.sum_append]
      unfold cfL
      rw [h]
      simp
    · rw [List.map_append, List.sum_append]
      unfold cfL
      rw [h]
      simp
  | some c0 =>
    have hm := getC_mem h
    refine ⟨l.map fun x => if x.1 = k then (x.1, c) else x, ?_, ?_, fun x hx => ?_, by rw [List.length_map]; exact Nat.le_succ _, fun g => ?_, ?_⟩
    · unfold putK
      rw [if_pos]
      · unfold dk
        rw [List.map_map, List.map_map]
        refine List.map_congr_left fun x hx => ?_
        show (if (Sum.inl (x.1 : Int) : Key) = Sum.inl (k : Int) then _ else _) = _
        by_cases e : x.1 = k
        · rw [if_pos (by rw [e])]
          simp [Function.comp, e]
        · rw [if_neg (fun q => e (by injection q with q; omega))]
          simp [Function.comp, e]
      · refine List.any_eq_true.mpr ⟨(Sum.inl (k : Int), V.int c0), List.mem_map.mpr ⟨_, hm, rfl⟩, decide_eq_true rfl⟩
    · rw [List.map_map]
      have : (Prod.fst ∘ fun x : Nat × Int => if x.1 = k then (x.1, c) else x) = Prod.fst := by
        funext x
        show (if x.1 = k then (x.1, c) else x).1 = x.1
        split <;> rfl
      rw [this]; exact hn
    · obtain ⟨y, hy, rfl⟩ := List.mem_map.mp hx
      show (if y.1 = k then (y.1, c) else y) ∈ l ∨ _
      split
      · rename_i e; exact .inr (by rw [e])
      · exact .inl hy
    · have hc : cfL l k = c0 := by unfold cfL; rw [h]; rfl
      rw [hc, List.map_map]
      clear hc h
      induction l with
      | nil => cases hm
      | cons x l ih =>
        obtain ⟨a, b⟩ := x
        rw [List.map_cons, List.map_cons, List.sum_cons, List.sum_cons]
        rw [List.map_cons] at hn
        have hn' := List.nodup_cons.mp hn
        by_cases e : a = k
        · subst e
          have hb : b = c0 := by
            rcases List.mem_cons.mp hm with q | q
            · injection q with _ q; exact q.symm
            · exact absurd (List.mem_map.mpr ⟨_, q, rfl⟩) hn'.1
          subst hb
          have rest : l.map ((fun x : Nat × Int => x.2 * g x.1) ∘ fun x : Nat × Int => if x.1 = a then (x.1, c) else x) = l.map fun x => x.2 * g x.1 := by
            refine List.map_congr_left fun y hy => ?_
            show (if y.1 = a then (y.1, c) else y).2 * g (if y.1 = a then (y.1, c) else y).1 = _
            rw [if_neg fun q : y.1 = a => hn'.1 (q ▸ List.mem_map.mpr ⟨y, hy, rfl⟩)]
          rw [rest]
          show (if a = a then (a, c) else (a, b)).2 * g (if a = a then (a, c) else (a, b)).1 + _ = b * g a + _ + _
          rw [if_pos rfl, Int.sub_mul]
          show c * g a + _ = _
          omega
        · have hm' : (k, c0) ∈ l := by
            rcases List.mem_cons.mp hm with q | q
            · injection q with q _; exact absurd q.symm e
            · exact q
          rw [ih hn'.2 hm']
          show (if a = k then (a, c) else (a, b)).2 * g (if a = k then (a, c) else (a, b)).1 + _ = b * g a + _ + _
          rw [if_neg e]
          show b * g a + _ = _
          omega
    · have hc : cfL l k = c0 := by unfold cfL; rw [h]; rfl
      rw [hc, List.map_map]
      clear hc h
      induction l with
      | nil => cases hm
      | cons x l ih =>
        obtain ⟨a, b⟩ := x
        rw [List.map_cons, List.map_cons, List.sum_cons, List.sum_cons]
        rw [List.map_cons] at hn
        have hn' := List.nodup_cons.mp hn
        by_cases e : a = k
        · subst e
          have hb : b = c0 := by
            rcases List.mem_cons.mp hm with q | q
            · injection q with _ q; exact q.symm
            · exact absurd (List.mem_map.mpr ⟨_, q, rfl⟩) hn'.1
          subst hb
          have rest : l.map ((fun x : Nat × Int => x.2.natAbs) ∘ fun x : Nat × Int => if x.1 = a then (x.1, c) else x) = l.map fun x => x.2.natAbs := by
            refine List.map_congr_left fun y hy => ?_
            show (if y.1 = a then (y.1, c) else y).2.natAbs = _
            rw [if_neg fun q : y.1 = a => hn'.1 (q ▸ List.mem_map.mpr ⟨y, hy, rfl⟩)]
          rw [rest]
          show (if a = a then (a, c) else (a, b)).2.natAbs + _ + _ ≤ b.natAbs + _ + _
          rw [if_pos rfl]
          show c.natAbs + _ + _ ≤ _
          omega
        · have hm' : (k, c0) ∈ l := by
            rcases List.mem_cons.mp hm with q | q
            · injection q with q _; exact absurd q.symm e
            · exact q
          have := ih hn'.2 hm'
          show (if a = k then (a, c) else (a, b)).2.natAbs + _ + _ ≤ b.natAbs + _ + _
          rw [if_neg e]
          show b.natAbs + _ + _ ≤ _
          omega
/-- a dict of counts: keys of at most 2 ** 101 + 1, all different, all counts together within C -/
structure CtsL (N C : Nat) (l : List (Nat × Int)) : Prop where
  nd : (l.map Prod.fst).Nodup
  len : l.length ≤ N
  key : ∀ x ∈ l, x.1 ≤ 2 ^ 101 + 1
  cnt : (l.map fun x => x.2.natAbs).sum ≤ C
def CtsR (N C : Nat) : VP := fun v H => ∃ d l, v = .ref d ∧ H d = some (.dK (dk l)) ∧ CtsL N C l ∧ ∀ x ∈ l, x.1 ≤ 2 ^ 96
theorem ctsR (N C : Nat) : Mono (CtsR N C) := fun v H H' e ⟨d, l, h1, h2, h3⟩ => ⟨d, l, h1, e d _ h2, h3⟩
/-! ### exponents that are drawn -/
def pLawExp : V → V → Hp → VP → Prop := fun x y H R => ∃ k : Int, Pool x H ∧ y = .int k ∧ R = fun v _ => ∃ n : Nat, v = .int (n : Int) ∧ n ≤ 2 ^ 96
def sp_law_exponent (K : PySem.W.Frag) : Sp := spF2 pLawExp
def t_law_exponent (K : PySem.W.Frag) : TS := (tSeq (tAsg (tCall (sp_law_pick K) [] E0 (tCons (tVar 0) (tCons (tVar 1) (tCons (tC (.int 6)) tNil)))) (gName 2))
    (tSeq (tAsg (tCall (sp_law_pick K) [] E0 (tCons (tVar 0) (tCons (tOp xAdd (tVar 1) (tC (.int 1))) (tCons (tC (.int 41)) tNil)))) (gName 3))
    (tSeq (tIfS (tTest (tOp xLt (tVar 2) (tC (.int 3)))) (tRet (tVar 3)) tNext)
    (tSeq (tAsg (tCall (sp_law_two K) [] E0 (tCons (tOp xAdd (tC (.int 6)) (tCall (sp_law_pick K) [] E0 (tCons (tVar 0) (tCons (tOp xAdd (tVar 1) (tC (.int 2))) (tCons (tC (.int 90)) tNil))))) tNil)) (gName 4))
    (tSeq (tIfS (tTest (tOp rEq (tVar 2) (tC (.int 3)))) (tRet (tOp xAdd (tVar 4) (tVar 3))) tNext)
    (tSeq (tIfS (tTest (tOp rEq (tVar 2) (tC (.int 4)))) (tRet (tOp xSub (tVar 4) (tVar 3))) tNext)
    (tRet (tOp xSub (tOp xAdd (tVar 4) (tCall (sp_law_two K) [] E0 (tCons (tCall (sp_law_pick K) [] E0 (tCons (tVar 0) (tCons (tOp xAdd (tVar 1) (tC (.int 3))) (tCons (tC (.int 30)) tNil)))) tNil))) (tOp xMod (tVar 3) (tC (.int 3)))))))))))
section
variable {K : PySem.W.Frag} {σ : L2.St} {H : Hp} {tn ta tm : TE}
/-- a drawn number below m -/
theorem er_pick {m : Nat} {k : Int} (hx : ER tn σ H Pool) (ha : Ev ta σ H (.int k)) (hm : Ev tm σ H (.int (m : Int))) (h0 : 0 < m) : ER (tCall (sp_law_pick K) [] E0 (tCons tn (tCons ta (tCons tm tNil)))) σ H (fun v _ => ∃ j : Nat, j < m ∧ v = .int (j : Int)) :=
  er_call3 hx pool (er_is ha) monoC (er_is hm) monoC fun v w z H1 e h1 h2 h3 => ⟨k, m, h1, h2, h3, h0, rfl⟩
theorem er_var' {R : VP} {i : Nat} {v : V} (h : σ[i]? = some (some v)) (hR : R v H) (m : Mono R) : ER (tVar i) σ H R := er_var h fun H1 e => m _ _ _ e hR
end
def IntR (P : Int → Prop) : VP := fun v _ => ∃ i, v = .int i ∧ P i
theorem intR {P : Int → Prop} : Mono (IntR P) := fun _ _ _ _ h => h
section
variable {K : PySem.W.Frag} {σ : L2.St} {H : Hp} {tn ta tb tm : TE} {P Q S : Int → Prop}
theorem er_I {i : Int} (h : Ev ta σ H (.int i)) (hp : P i) : ER ta σ H (IntR P) := er_ev h fun _ _ => ⟨i, rfl, hp⟩
theorem er_c {i : Int} (hp : P i) : ER (tC (.int i)) σ H (IntR P) := er_I ev_c hp
theorem er_add (h : ER ta σ H (IntR P)) (h' : ER tb σ H (IntR Q)) (k : ∀ i j, P i → Q j → S (i + j)) : ER (tOp xAdd ta tb) σ H (IntR S) := fun H1 e R q =>
  h H1 e _ fun v H2 e2 ⟨i, hv, hi⟩ => h' H2 (e.trans e2) _ fun w H3 e3 ⟨j, hw, hj⟩ => ⟨i, j, hv, hw, q _ H3 (e2.trans e3) ⟨_, rfl, k i j hi hj⟩⟩
theorem er_sub (h : ER ta σ H (IntR P)) (h' : ER tb σ H (IntR Q)) (k : ∀ i j, P i → Q j → S (i - j)) : ER (tOp xSub ta tb) σ H (IntR S) := fun H1 e R q =>
  h H1 e _ fun v H2 e2 ⟨i, hv, hi⟩ => h' H2 (e.trans e2) _ fun w H3 e3 ⟨j, hw, hj⟩ => ⟨i, j, hv, hw, q _ H3 (e2.trans e3) ⟨_, rfl, k i j hi hj⟩⟩
theorem er_pickI {m : Nat} {k : Int} (hx : ER tn σ H Pool) (ha : Ev ta σ H (.int k)) (hm : Ev tm σ H (.int (m : Int))) (h0 : 0 < m) : ER (tCall (sp_law_pick K) [] E0 (tCons tn (tCons ta (tCons tm tNil)))) σ H (IntR fun i => 0 ≤ i ∧ i < m) :=
  (er_pick hx ha hm h0).imp fun v H1 e ⟨j, hj, hv⟩ => ⟨j, hv, by omega⟩
theorem er_two {L N : Nat} (h : ER ta σ H (IntR fun i => L ≤ i ∧ i ≤ N)) (hN : N ≤ 90000) : ER (tCall (sp_law_two K) [] E0 (tCons ta tNil)) σ H (fun v _ => ∃ i : Int, v = .int i ∧ ∃ a : Nat, L ≤ a ∧ a ≤ N ∧ i = 2 ^ a) :=
  er_call (ea_one h intR) fun vs H1 e ⟨v, hv, i, hi, hp1, hp2⟩ Q E q => ⟨v, _, hv, ⟨i.toNat, by rw [hi]; exact congrArg V.int (by omega), by omega, rfl⟩, fun w H2 e2 hw => q w H2 e2 ⟨_, hw, i.toNat, by omega, by omega, rfl⟩⟩
end
theorem two_le {a b : Nat} (h : a ≤ b) : (2 : Int) ^ a ≤ 2 ^ b := by
  have : (2 : Nat) ^ a ≤ 2 ^ b := Nat.pow_le_pow_right (by decide) h
  exact_mod_cast this
theorem pure_law_exponent {K : PySem.W.Frag} {vs : List V} {H : Hp} {Q : VK} {E : XK} (h : sp_law_exponent K vs H Q E) : t_law_exponent K { nx := fun _ H' => Q .non H', rt := Q } (start ["numbers", "at", "way", "low", "high"] vs) H := by
  obtain ⟨x, y, R, rfl, ⟨kk, hx, rfl, rfl⟩, k⟩ := h
  refine q_asgR (er_pick (m := 6) (er_var' rfl hx pool) (ev_var rfl) ev_c (by decide)) fun v H1 e1 ⟨way, _, hv⟩ => ?_
  subst hv
  refine q_asgR (er_pick (m := 41) (er_var' rfl (pool _ _ _ e1 hx) pool) (ev_add (ev_var rfl) ev_c) ev_c (by decide)) fun v H2 e2 ⟨low, hl, hv⟩ => ?_
  subst hv
  have e12 := e1.trans e2
  refine q_when (et_test (ev_lt (ev_var rfl) ev_c)) (fun _ H3 e3 => ?_) (fun _ H3 e3 => ?_)
  · exact s_ret (ev_var rfl) fun H4 e4 => k _ _ (e12.trans (e3.trans e4)) ⟨low, rfl, by omega⟩
  have e13 := e12.trans e3
  have hx3 := pool _ _ _ e13 hx
  refine q_asgR (er_two (L := 6) (N := 95) (er_add (P := fun i => i = 6) (Q := fun i => 0 ≤ i ∧ i < 90) (er_c rfl) (er_pickI (m := 90) (er_var' rfl hx3 pool) (ev_add (ev_var rfl) ev_c) ev_c (by decide)) fun i j hi hj => by omega) (by decide)) fun v H4 e4 ⟨hi, hv, a, ha1, ha2, ha3⟩ => ?_
  subst hv
  have hlow : (low : Int) ≤ 40 := by omega
  have hpa : (64 : Int) ≤ 2 ^ a := two_le (a := 6) ha1
  have hpb : (2 : Int) ^ a ≤ 2 ^ 95 := two_le ha2
  have h2p : (2 : Int) ^ 95 + 2 ^ 30 + 40 ≤ 2 ^ 96 := by decide
  have h2n : (2 : Nat) ^ 96 = ((2 : Int) ^ 96).toNat := by decide
  have e14 := e13.trans e4
  refine q_when (et_test (ev_eq (ev_var rfl) ev_c rfl)) (fun _ H5 e5 => ?_) (fun _ H5 e5 => ?_)
  · refine s_ret (ev_add (ev_var rfl) (ev_var rfl)) fun H6 e6 => k _ _ (e14.trans (e5.trans e6)) ⟨(hi + low).toNat, congrArg V.int (by omega), by omega⟩
  refine q_when (et_test (ev_eq (ev_var rfl) ev_c rfl)) (fun _ H6 e6 => ?_) (fun _ H6 e6 => ?_)
  · refine s_ret (ev_sub (ev_var rfl) (ev_var rfl)) fun H7 e7 => k _ _ (e14.trans (e5.trans (e6.trans e7))) ⟨(hi - low).toNat, congrArg V.int (by omega), by omega⟩
  have e16 := e14.trans (e5.trans e6)
  refine s_retR (er_sub (P := fun i => 64 ≤ i ∧ i ≤ 2 ^ 95 + 2 ^ 30) (Q := fun i => 0 ≤ i ∧ i < 3) (S := fun i => 0 ≤ i ∧ i ≤ 2 ^ 96) (er_add (P := fun i => i = hi) (Q := fun i => 0 ≤ i ∧ i ≤ 2 ^ 30) (er_I (ev_var rfl) rfl) ((er_two (N := 30) (L := 0) ((er_pickI (m := 30) (er_var' rfl (pool _ _ _ e16 hx) pool) (ev_add (ev_var rfl) ev_c) ev_c (by decide)).imp fun v _ _ ⟨i, hv, hi⟩ => ⟨i, hv, by omega⟩) (by decide)).imp fun v H8 e8 ⟨i, hv, b, hb1, hb2, hb3⟩ => ⟨i, hv, by have := two_le hb2; have h0 : (0 : Int) < 2 ^ b := Int.pow_pos (by decide); omega⟩) fun i j hi hj => by omega) (er_I (ev_mod (ev_var rfl) ev_c (by decide)) (by omega)) fun i j hi hj => by omega) fun v H7 e7 ⟨i, hv, h1, h2⟩ => k _ _ (e16.trans e7) ⟨i.toNat, by rw [hv]; exact congrArg V.int (by omega), by omega⟩

/-! ### the drawn counts -/
section
variable {K : PySem.W.Frag} {σ : L2.St} {H : Hp} {ta tb td ty : TE}
theorem ev_get0 {d : Addr} {l : List (Nat × Int)} {n : Nat} {z : Int} (h : Ev td σ H (.ref d)) (hk : Ev ty σ H (.int (n : Int))) (hd : H d = some (.dK (dk l))) : Ev (tDGet2 td ty (tC (.int z))) σ H (.int ((getC l n).getD z)) := fun H1 e Q q =>
  h H1 e _ fun H2 e2 => ⟨d, rfl, .inl ⟨dk l, .inl ((e.trans e2) d _ hd)⟩, hk H2 (e.trans e2) _ fun H3 e3 => ⟨_, DGet.k (k := Sum.inl (n : Int)) (((e.trans e2).trans e3) d _ hd), by
    rw [valV_dk]
    have : ((getC l n).map V.int).getD (.int z) = .int ((getC l n).getD z) := by cases getC l n <;> rfl
    rw [this]
    exact q H3 (e2.trans e3)⟩⟩
theorem er_menu {ms : List Int} {m : Nat} (h : EvL ta σ H (ms.map V.int)) (h' : ER tb σ H (fun v _ => ∃ j : Nat, j < m ∧ v = .int (j : Int))) (hm : m ≤ ms.length) : ER (tOp (rIxL K) ta tb) σ H (IntR (· ∈ ms)) := fun H1 e Q q =>
  h H1 e _ fun p H2 _ e2 hp => h' H2 (e.trans e2) _ fun v H3 e3 ⟨j, hj, hv⟩ => by
    subst hv
    exact rv_ixL (sq_of (e3 p _ hp)) (ints_at (i := j) (by omega)) H3 (Ex.refl _) _ fun H4 e4 => q _ H4 (e2.trans (e3.trans e4)) ⟨_, rfl, getD_mem (by omega)⟩
end
def pLawModel : V → V → V → Hp → VP → Prop := fun x y z H R => ∃ (k : Int) (n : Nat), Pool x H ∧ y = .int k ∧ z = .int (n : Int) ∧ n ≤ 1000 ∧ R = CtsR n (3 * n)
def sp_law_model (K : PySem.W.Frag) : Sp := spF3 pLawModel
def t_law_model (K : PySem.W.Frag) : TS := (tSeq (tAsg tDNewK (gName 3))
    (tSeq (tFor (iRng1 (tCons (tVar 2) tNil)) (gName 4) (tSeq (tAsg (tCB xMax2 (tCons (tC (.int 0)) (tCons (tCall (sp_law_exponent K) [] E0 (tCons (tVar 0) (tCons (tOp xAdd (tVar 1) (tOp xMul (tC (.int 5)) (tVar 4))) tNil))) tNil))) (gName 5))
    (sDPut (tVar 3) (tVar 5) (tOp xAdd (tDGet2 (tVar 3) (tVar 5) (tC (.int 0))) (tOp (rIxL K) (tLst (tCons (tC (.int 1)) (tCons (tUn xNeg (tC (.int 1))) (tCons (tC (.int 1)) (tCons (tC (.int 2)) (tCons (tUn xNeg (tC (.int 3))) tNil)))))) (tCall (sp_law_pick K) [] E0 (tCons (tVar 0) (tCons (tOp xAdd (tOp xAdd (tVar 1) (tOp xMul (tC (.int 5)) (tVar 4))) (tC (.int 4))) (tCons (tC (.int 5)) tNil)))))))))
    (tRet (tVar 3))))
theorem pure_law_model {K : PySem.W.Frag} {vs : List V} {H : Hp} {Q : VK} {E : XK} (h : sp_law_model K vs H Q E) : t_law_model K { nx := fun _ H' => Q .non H', rt := Q } (start ["numbers", "at", "many", "counts", "k", "exponent"] vs) H := by
  obtain ⟨x, y, z, R, rfl, ⟨kk, n, hx, rfl, rfl, hn, rfl⟩, k⟩ := h
  refine q_asgD fun d H1 hd e1 h1 => ?_
  refine q_forR1 (ea_cons (ev_var rfl) ea_nil) ⟨by omega, by omega⟩ (fun i σ H' => ∃ (z4 z5 : Option V) (l : List (Nat × Int)), σ = [some x, some (.int kk), some (.int (n : Int)), some (.ref d), z4, z5] ∧ Ex H H' ∧ H' d = some (.dK (dk l)) ∧ CtsL i (3 * i) l ∧ ∀ x ∈ l, x.1 ≤ 2 ^ 96)
    (fun H2 e2 => ⟨none, none, [], rfl, e1.trans e2, e2 d _ h1, ⟨List.nodup_nil, Nat.le_refl _, (fun x h => by cases h), Nat.le_refl _⟩, fun x h => by cases h⟩) ?_ ?_
  · rintro i σ H' hi ⟨z4, z5, l, rfl, e2, h2, hl, hk96⟩
    have hx2 := pool _ _ _ e2 hx
    refine q_asgR (R := fun v _ => ∃ m : Nat, v = .int (m : Int) ∧ m ≤ 2 ^ 96) (fun Hx ex Q' q => ?_) fun v H3 e3 ⟨m, hv, hm⟩ => ?_
    · refine er_call2 (R := fun v _ => ∃ m : Nat, v = .int (m : Int) ∧ m ≤ 2 ^ 96) (er_var' rfl (pool _ _ _ ex hx2) pool) pool (er_is (ev_add (ev_var rfl) (ev_mul ev_c (ev_var rfl) (.inl (by decide))))) monoC (fun v w H5 e5 h5 h6 => ⟨_, h5, h6, rfl⟩) Hx (Ex.refl _) _ fun v H5 e5 ⟨m, hv, hm⟩ => ?_
      refine ⟨0, m, by rw [hv], ?_⟩
      have : (if (m : Int) > 0 then (m : Int) else 0) = (m : Int) := by split <;> omega
      rw [this]
      exact q _ H5 e5 ⟨m, rfl, hm⟩
    subst hv
    have hx3 := pool _ _ _ e3 hx2
    have h3 := e3 d _ h2
    refine er_add (P := fun i => i = cfL l m) (Q := fun i => i ∈ [1, -1, 1, 2, -3]) (S := fun c => (c - cfL l m).natAbs ≤ 3) (er_I (ev_get0 (ev_var rfl) (ev_var rfl) h3) rfl) (er_menu (ms := [1, -1, 1, 2, -3]) (el_lst (ea_cons ev_c (ea_cons (ev_neg ev_c) (ea_cons ev_c (ea_cons ev_c (ea_cons (ev_neg ev_c) ea_nil))))) (by decide)) (er_pick (m := 5) (er_var' rfl hx3 pool) (ev_add (ev_add (ev_var rfl) (ev_mul ev_c (ev_var rfl) (.inl (by decide)))) ev_c) ev_c (by decide)) (by decide)) (fun a b ha hb => ?_) H3 (Ex.refl _) _ fun v H4 e4 ⟨c, hv, hc⟩ => ?_
    · simp at hb
      omega
    subst hv
    obtain ⟨l', g1, g2, g3, g4, g5, g6⟩ := put_dk l m c hl.nd
    refine (ev_var rfl : Ev (tVar 3) _ H4 (.ref d)) H4 (Ex.refl _) _ fun H5 e5 => (ev_var rfl : Ev (tVar 5) _ H5 (.int (m : Int))) H5 (Ex.refl _) _ fun H6 e6 => ?_
    have e46 := e4.trans (e5.trans e6)
    refine ⟨d, _, rfl, DPut.k (k := Sum.inl (m : Int)) (e46 d _ h3) (sz_lt (by unfold dk; rw [List.length_map]; have := hl.len; omega)), ?_⟩
    rw [g1]
    refine ⟨_, _, l', rfl, Ex.mut (e2.trans (e3.trans e46)) hd, upd_same, ⟨g2, by have := hl.len; omega, fun x hx => ?_, ?_⟩, fun x hx => ?_⟩
    · rcases g3 x hx with q | rfl
      · exact hl.key x q
      · exact Nat.le_succ_of_le (Nat.le_trans hm (Nat.pow_le_pow_right (by decide) (by decide)))
    · have := hl.cnt
      omega
    · rcases g3 x hx with q | rfl
      · exact hk96 x q
      · exact hm
  · rintro σ H' ⟨z4, z5, l, rfl, e2, h2, hl, hk96⟩
    exact s_ret (ev_var rfl) fun H3 e3 => k _ _ (e2.trans e3) ⟨d, l, rfl, e3 d _ h2, by rw [Int.toNat_natCast] at hl; exact hl, hk96⟩
end Sk

set_option Elab.async false
set_option linter.all false
set_option maxRecDepth 100000
set_option maxHeartbeats 1000000
namespace Sk
open PySem L2 Evl PyProof.Rows
/-- values that hold the keys of a dict whose keys are ints are those ints -/
theorem ints_of_keys {kvs : List (Key × Value)} {ks : List Int} {vs : List Value} (hk : kvs.map (·.1) = ks.map Sum.inl) (hl : vs.length = ks.length)
    (h : ∀ (j : Nat) (v : Value), vs[j]? = some v → ∃ k x, kvs[j]? = some (k, x) ∧ keyIs k v = true) : IntsAre vs ks := L2.ints_each hl fun j v e => by
  obtain ⟨k, x, e1, e2⟩ := h j v e
  have e3 : (ks.map Sum.inl)[j]? = some k := by rw [← hk, List.getElem?_map, e1]; rfl
  rw [List.getElem?_map] at e3
  match e4 : ks[j]?, e3 with
  | some y, e3 =>
    obtain rfl : Sum.inl y = k := Option.some.inj e3
    rcases L2.keyIs_shape e2 with ⟨i, t, ek, ev⟩ | ⟨z, t, ek, _⟩
    · exact ⟨y, t, rfl, by cases ek; exact ev⟩
    · cases ek
  | none, e3 => cases e3
/-- sorted(d) of a dict whose keys are ints, of any length that the model sorts -/
theorem call_sortedDA {X : L2.Cx} (hcalm : X.calm = true) : CallR X (.builtin "sorted") (fun xs H Q => ∃ (a : Addr) (kvs : List (Key × V)) (ks : List Int), xs = [.ref a] ∧ L2.Rd H a (.dK kvs) ∧ kvs.map (·.1) = ks.map Sum.inl ∧ ks.length ≤ 1000 ∧
    ∀ (ys : List Int) (p : Addr), ys.Perm ks → ys.Pairwise (· ≤ ·) → H p = none → Q (.ref p) (upd H p (.lst (ys.map V.int)))) := by
  intro pins s σ H xs us Q I r ⟨a, kvs, ks, ex, hd, hks, hle, q⟩
  subst ex
  obtain ⟨u, rfl, rx⟩ := vals1 r
  cases rx
  obtain ⟨z, lo, vs, rel, dd⟩ := dk_rd I.hok hd
  obtain ⟨ep, hat⟩ := dd.dictAt
  have hkeys : vs.map (·.1) = ks.map Sum.inl := rel.keys.symm.trans hks
  have hlen : vs.length = ks.length := by simpa using congrArg List.length hkeys
  have h1000 : (1000 : Nat) ≤ sizeLine := by decide
  refine Calls.call_function_entry kind_sorted plain_sorted entry_sorted (args_sorted1 _) ?_
  unfold Builtin.«sorted»
  refine wpAny_bind (m := checkCount "sorted" 1 1 _) (wpAny_pure (wpAny_bind (PySem.W.kdu_collect (A := X.A.in1) (PySem.W.kdl_dict (knd := mixKind X.prog X.w) (kvs := vs) (ep := ep) lo) (I.ok.hd hcalm) hat (by omega) fun h' tk acc hk hacc => ?_)))
  have hn : acc.toList.length = ks.length := by rw [Array.length_toList, hacc.1, hlen]
  have hI : IntsAre acc.toList ks := ints_of_keys hkeys hn fun j v e => hacc.2 j v (by rw [← Array.getElem?_toList]; exact e)
  have hsz : acc.toList.length ≤ sizeLine := by omega
  have hob : (h'.push (seqObj "list" acc.toList.toArray 0)).get? h'.objs.size = some (seqObj "list" acc.toList.toArray 0) := Heap.get?_push_size _ rfl
  refine wpAny_bind (wpAny_newList ?_ hsz)
  refine wpAny_bind (wpAny_holding (wpAny_call_entry slot_list_sort ⟨_, hob, rfl⟩ entry_list_sort
    (list_sort_treeAny (s := { s with heap := h'.push (seqObj "list" acc.toList.toArray 0), toks := tk }) hob hI hsz fun out ys g1 g2 g3 => ⟨_, rfl, ?_⟩) (args_list_sort _)))
  obtain ⟨e', he'⟩ := sortedHeap_at (vs := acc.toList) (out := out) hob
  refine wpAny_pure ⟨_, rfl, .ref h'.objs.size, upd H h'.objs.size (.lst (ys.map V.int)), (I.kept hk : Inv X pins σ H { s with heap := h', toks := tk }).laid (t' := tk) (fun b u e => ?_) (Nat.le_refl _)
    (show ObjOk X.prog X.w _ _ _ (.lst (ys.map V.int)) from ⟨by rw [List.length_map, g2.length_eq]; omega, out.toList, e', vals_of_ints g1, by rw [Array.toArray_toList]; exact he'⟩), rfl, q ys _ g2 g3 ((I.kept hk : Inv X pins σ H { s with heap := h', toks := tk }).hok.fresh (Nat.le_refl _))⟩
  have hb : b < h'.objs.size := Heap.lt_size e
  rw [sortedHeap_old (Nat.ne_of_lt hb) (by rw [size_push']; exact Nat.lt_succ_of_lt hb)]
  exact Heap.get?_push_of_some _ e
end Sk

set_option Elab.async false
set_option linter.all false
set_option maxRecDepth 100000
set_option maxHeartbeats 2000000
namespace Sk
open PySem L2 Evl
def xSortD : List V → Hp → VK → Prop := fun xs H Q =>
  ∃ (a : Addr) (kvs : List (Key × V)) (ks : List Int), xs = [V.ref a] ∧ Rd H a (HO.dK kvs) ∧ List.map (fun x => x.fst) kvs = List.map Sum.inl ks ∧ ks.length ≤ 1000 ∧
    ∀ (ys : List Int) (p : Addr), ys.Perm ks → List.Pairwise (fun x1 x2 => x1 ≤ x2) ys → H p = none → Q (V.ref p) (upd H p (HO.lst (List.map V.int ys)))
theorem perm_sumI {l l' : List Int} (h : l.Perm l') : l.sum = l'.sum := by
  induction h with
  | nil => rfl
  | cons x _ ih => rw [List.sum_cons, List.sum_cons, ih]
  | swap x y l => rw [List.sum_cons, List.sum_cons, List.sum_cons, List.sum_cons]; omega
  | trans _ _ h1 h2 => exact h1.trans h2
def natI (l : List Nat) : List Int := l.map fun n : Nat => (n : Int)
theorem getC_has {l : List (Nat × Int)} {k : Nat} (h : k ∈ l.map Prod.fst) : getC l k = some (cfL l k) := by
  unfold cfL
  cases hg : getC l k with
  | none =>
    obtain ⟨x, hx, e⟩ := List.mem_map.mp h
    exact absurd e (getC_none hg x hx)
  | some c => rfl
def totC (l : List (Nat × Int)) : Int := (l.map fun x => x.2 * 2 ^ x.1).sum
theorem cf_at {l : List (Nat × Int)} (hn : (l.map Prod.fst).Nodup) {x : Nat × Int} (hx : x ∈ l) : cfL l x.1 = x.2 := by
  have h1 := getC_has (List.mem_map.mpr ⟨x, hx, rfl⟩)
  have h2 := getC_mem h1
  clear h1
  induction l with
  | nil => cases hx
  | cons y l ih =>
    have hn' := List.nodup_cons.mp hn
    by_cases e : y.1 = x.1
    · have hx' : x = y := by
        rcases List.mem_cons.mp hx with q | q
        · exact q
        · exact absurd (List.mem_map.mpr ⟨x, q, rfl⟩) (e ▸ hn'.1)
      subst hx'
      unfold cfL getC
      rw [List.find?_cons, decide_eq_true e]
      rfl
    · have hx' : x ∈ l := by
        rcases List.mem_cons.mp hx with q | q
        · exact absurd (by rw [q]) e
        · exact q
      have hc : cfL (y :: l) x.1 = cfL l x.1 := by
        unfold cfL getC
        rw [List.find?_cons, decide_eq_false e]
      rw [hc] at h2 ⊢
      refine ih hn'.2 hx' ?_
      rcases List.mem_cons.mp h2 with q | q
      · exact absurd (by rw [← q]) e
      · exact q
theorem tot_cf : ∀ {l : List (Nat × Int)}, (l.map Prod.fst).Nodup → ((l.map Prod.fst).map fun w => cfL l w * 2 ^ w).sum = totC l := by
  intro l hn
  unfold totC
  rw [List.map_map]
  congr 1
  refine List.map_congr_left fun x hx => ?_
  show cfL l x.1 * 2 ^ x.1 = _
  rw [cf_at hn hx]
theorem abs_cf {l : List (Nat × Int)} (hn : (l.map Prod.fst).Nodup) : ((l.map Prod.fst).map fun w => (cfL l w).natAbs + 2).sum = (l.map fun x => x.2.natAbs).sum + 2 * l.length := by
  rw [List.map_map, List.map_congr_left (g := fun x : Nat × Int => x.2.natAbs + 2) fun x hx => by show (cfL l x.1).natAbs + 2 = _; rw [cf_at hn hx]]
  clear hn
  induction l with
  | nil => rfl
  | cons x l ih => rw [List.map_cons, List.map_cons, List.sum_cons, List.sum_cons, ih, List.length_cons]; omega
/-- what the rows are: signs and exponents, the greatest first -/
structure RowsOut (P : Nat) (l : List (Nat × Int)) (rows : List (Int × Nat)) : Prop where
  gap : rows.Pairwise (fun x y => x.2 + 2 ≤ y.2)
  sg : ∀ x ∈ rows, x.1 = 1 ∨ x.1 = -1
  val : sumP rows = totC l
  ht : ∀ x ∈ rows, x.2 ≤ 2 ^ 101 + 9001
  len : rows.length ≤ P
def pLawRows : V → Hp → VP → Prop := fun x H R => ∃ (d : Addr) (l : List (Nat × Int)) (N C : Nat), x = .ref d ∧ H d = some (.dK (dk l)) ∧ CtsL N C l ∧ N ≤ 1000 ∧ 2 * (2 * N + C) + 1 < 9000 ∧ R = fun v H' => ∃ rows, RowsOut (2 * (2 * N + C) + 1) l rows ∧ ListR PairI rows.reverse v H'
def sp_law_rows (K : PySem.W.Frag) : Sp := spF1 pLawRows
def t_law_rows (K : PySem.W.Frag) : TS := (tSeq (tAsg (tCB xSortD (tCons (tVar 0) tNil)) (gName 1))
    (tSeq (tAsg (tLst tNil) (gName 2))
    (tSeq (tAsg (tC (.int 0)) (gName 3))
    (tSeq (tAsg (tC (.int 0)) (gName 4))
    (tSeq (tAsg (tC (.int 0)) (gName 5))
    (tSeq (tFor (iRng1 (tCons (tC (.int 9000)) tNil)) (gName 6) (tSeq (tIfS (tAnd (tTest (tOp rEq (tVar 5) (tCB (rLenS K) (tCons (tVar 1) tNil)))) (tTest (tOp rEq (tVar 3) (tC (.int 0))))) tBreak tNext)
    (tSeq (tIfS (tAnd (tTest (tOp xLt (tVar 5) (tCB (rLenS K) (tCons (tVar 1) tNil)))) (tOr (tTest (tOp rEq (tVar 3) (tC (.int 0)))) (tTest (tOp rEq (tOp (rIxL K) (tVar 1) (tVar 5)) (tVar 4))))) (tSeq (tAsg (tOp (rIxL K) (tVar 1) (tVar 5)) (gName 4))
    (tSeq (tAsg (tOp xAdd (tVar 3) (tDGet (tVar 0) (tVar 4))) (gName 3))
    (tAsg (tOp xAdd (tVar 5) (tC (.int 1))) (gName 5)))) tNext)
    (tSeq (tIfS (tTest (tOp rEq (tOp xMod (tCB xInt1 (tCons (tVar 3) tNil)) (tC (.int 2))) (tC (.int 1)))) (tSeq (tAsg (tC (.int 0)) (gName 7))
    (tSeq (tIfS (tAnd (tTest (tOp xLt (tVar 5) (tCB (rLenS K) (tCons (tVar 1) tNil)))) (tTest (tOp rEq (tOp (rIxL K) (tVar 1) (tVar 5)) (tOp xAdd (tVar 4) (tC (.int 1)))))) (tAsg (tDGet (tVar 0) (tOp xAdd (tVar 4) (tC (.int 1)))) (gName 7)) tNext)
    (tSeq (tAsg (tOp xSub (tC (.int 2)) (tOp xMod (tCB xInt1 (tCons (tOp xAdd (tVar 3) (tOp xMul (tC (.int 2)) (tVar 7))) tNil)) (tC (.int 4)))) (gName 8))
    (tSeq (tDrop (tBM K "list" rAppend (tVar 2) (tCons (tTup (tCons (tVar 8) (tCons (tVar 4) tNil))) tNil)))
    (tAsg (tOp xSub (tVar 3) (tVar 8)) (gName 3)))))) tNext)
    (tSeq (tAsg (tOp xFdiv (tVar 3) (tC (.int 2))) (gName 3))
    (tAsg (tOp xAdd (tVar 4) (tC (.int 1))) (gName 4)))))))
    (tRet (tLc (iRng1 (tCons (tCB (rLenS K) (tCons (tVar 2) tNil)) tNil)) (gName 6) tYes (tOp (rIxL K) (tVar 2) (tOp xSub (tOp xSub (tCB (rLenS K) (tCons (tVar 2) tNil)) (tC (.int 1))) (tVar 6))) [6]))))))))
section
variable {K : PySem.W.Frag} {σ : L2.St} {H : Hp} {ta tb : TE}
theorem ev_nat {p : Addr} {ws : List Nat} {i w : Nat} (h : Ev ta σ H (.ref p)) (hi : Ev tb σ H (.int (i : Int))) (hp : H p = some (.lst ((natI ws).map V.int))) (hw : ws[i]? = some w) : Ev (tOp (rIxL K) ta tb) σ H (.int (w : Int)) :=
  ev_at h hi (sq_of hp) (atI_nat (by unfold natI; rw [List.map_map, List.getElem?_map, hw]; rfl))
/-- sorted(counts) -/
theorem er_sortD {d : Addr} {l : List (Nat × Int)} (h : Ev ta σ H (.ref d)) (hd : H d = some (.dK (dk l))) (hz : l.length ≤ 1000) (hn : (l.map Prod.fst).Nodup) : ER (tCB xSortD (tCons ta tNil)) σ H (fun v H2 => ∃ p ws, v = .ref p ∧ H p = none ∧ H2 p = some (.lst ((natI ws).map V.int)) ∧ ws.Perm (l.map Prod.fst) ∧ ws.Pairwise (· < ·)) := fun H1 e Q q =>
  h H1 e _ fun H2 e2 => ⟨d, dk l, natI (l.map Prod.fst), rfl, .inl ((e.trans e2) d _ hd), by unfold dk natI; rw [List.map_map, List.map_map, List.map_map]; rfl, by unfold natI; rw [List.length_map, List.length_map]; exact hz, fun ys p hperm hsort hp => by
    obtain ⟨ws, hws, hwp⟩ : ∃ ws : List Nat, ys = natI ws ∧ ws.Perm (l.map Prod.fst) := by
      refine ⟨ys.map Int.toNat, ?_, ?_⟩
      · unfold natI
        rw [List.map_map]
        have : ∀ y ∈ ys, ((fun n : Nat => (n : Int)) ∘ Int.toNat) y = y := fun y hy => by
          have := hperm.mem_iff.mp hy
          obtain ⟨n, _, rfl⟩ := List.mem_map.mp this
          rfl
        rw [List.map_congr_left this, List.map_id']
      · have := hperm.map Int.toNat
        unfold natI at this
        rw [List.map_map] at this
        have e : (Int.toNat ∘ fun n : Nat => (n : Int)) = id := by funext n; rfl
        rw [e, List.map_id] at this
        exact this
    subst hws
    have hst : ws.Pairwise (· < ·) := by
      unfold natI at hsort
      rw [List.pairwise_map] at hsort
      refine List.Pairwise.imp₂ (fun a b h1 h2 => ?_) hsort (List.nodup_iff_pairwise_ne.mp (hwp.nodup_iff.mpr hn))
      omega
    exact q _ _ (e2.trans (Ex.new hp)) ⟨p, ws, rfl, fresh_back e (fresh_back e2 hp), upd_same, hwp, hst⟩⟩
theorem dec_int {a b : Int} : decide (V.int a = V.int b) = decide (a = b) := decide_eq_decide.mpr ⟨fun h => by injection h, fun h => by rw [h]⟩
end
theorem pure_law_rows {K : PySem.W.Frag} {vs : List V} {H : Hp} {Q : VK} {E : XK} (h : sp_law_rows K vs H Q E) : t_law_rows K { nx := fun _ H' => Q .non H', rt := Q } (start ["counts", "waiting", "rows", "count", "exponent", "at", "k", "more", "sign"] vs) H := by
  obtain ⟨x, R, rfl, ⟨d, l, N, C, rfl, hd, hl, hN, hC, rfl⟩, k⟩ := h
  refine q_asgR (er_sortD (ev_var rfl) hd (by have := hl.len; omega) hl.nd) fun v H1 e1 ⟨p, ws, hv, hp, hp1, hwp, hst⟩ => ?_
  subst hv
  have hwl : ws.length ≤ N := by rw [hwp.length_eq, List.length_map]; exact hl.len
  have hmem : ∀ {i w : Nat}, ws[i]? = some w → w ∈ l.map Prod.fst := fun h => hwp.mem_iff.mp (List.mem_of_getElem? h)
  have hM : ∀ {i w : Nat}, ws[i]? = some w → w ≤ 2 ^ 101 + 1 := fun h => by
    obtain ⟨x, hx, e⟩ := List.mem_map.mp (hmem h)
    rw [← e]; exact hl.key x hx
  have htot : restV ws (cfL l) 0 = totC l := by
    unfold restV
    rw [List.drop_zero, perm_sumI (hwp.map _), tot_cf hl.nd]
  have hP : 2 * restA ws (cfL l) 0 + 1 ≤ 2 * (2 * N + C) + 1 := by
    have h1 : restA ws (cfL l) 0 = ((l.map Prod.fst).map fun w => (cfL l w).natAbs + 2).sum := by
      unfold restA
      rw [List.drop_zero]
      exact (hwp.map _).sum_nat
    have h2 := hl.cnt
    have h3 := hl.len
    rw [h1, abs_cf hl.nd]
    omega
  refine q_asgL (el_lst ea_nil (by decide)) fun r H2 hr e2 h2 => ?_
  refine q_asg ev_c fun H3 e3 => ?_
  refine q_asg ev_c fun H4 e4 => ?_
  refine q_asg ev_c fun H5 e5 => ?_
  have hpr : p ≠ r := fun z => by subst z; rw [hp1] at hr; cases hr
  have e25 := e2.trans (e3.trans (e4.trans e5))
  have hr0 : H r = none := fresh_back e1 hr
  have fin : ∀ (H' : Hp) (σ : L2.St) (z3 z4 z5 z6 z7 z8 : Option V) (zs : List V) (rows : List (Int × Nat)), σ = [some (.ref d), some (.ref p), some (.ref r), z3, z4, z5, z6, z7, z8] → Ex H H' → H' r = some (.lst zs) → ItemsR PairI rows zs H' → RowsOut (2 * (2 * N + C) + 1) l rows →
      tRet (tLc (iRng1 (tCons (tCB (rLenS K) (tCons (tVar 2) tNil)) tNil)) (gName 6) tYes (tOp (rIxL K) (tVar 2) (tOp xSub (tOp xSub (tCB (rLenS K) (tCons (tVar 2) tNil)) (tC (.int 1))) (tVar 6))) [6]) { nx := fun _ H' => Q .non H', rt := Q } σ H' := by
    rintro H' σ z3 z4 z5 z6 z7 z8 zs rows rfl e h1 h2 h3
    refine s_retR (er_of_el (el_revIx (ys := zs) (p := r) rfl (sq_of h1) (by rw [h2.1]; have := h3.len; omega) (by show 6 < 9; omega) (by decide))) fun v H6 e6 ⟨q, hv, hq⟩ => k v H6 (e.trans e6) ⟨rows, h3, q, zs.reverse, hv, hq, (h2.tex pairI (Ex.t e6)).rev⟩
  refine q_forR1 (ea_cons ev_c ea_nil) ⟨by decide, by decide⟩ (fun i σ H' => ∃ (z6 z7 z8 : Option V) (at' ex : Nat) (c : Int) (zs : List V) (rows : List (Int × Nat)), σ = [some (.ref d), some (.ref p), some (.ref r), some (.int c), some (.int (ex : Int)), some (.int (at' : Int)), z6, z7, z8] ∧ Ex H H' ∧ H' p = some (.lst ((natI ws).map V.int)) ∧ H' r = some (.lst zs) ∧ ItemsR PairI rows zs H' ∧ RowsI ws (cfL l) (totC l) (2 * (2 * N + C) + 1) (2 ^ 101 + 1) i at' ex c rows)
    (fun H6 e6 => ⟨none, none, none, 0, 0, 0, [], [], rfl, e1.trans (e25.trans e6), (e25.trans e6) p _ hp1, ((e3.trans (e4.trans e5)).trans e6) r _ h2, .nil, htot ▸ RowsI.zero hP⟩) ?_ ?_
  · rintro i σ H' hi ⟨z6, z7, z8, at', ex, c, zs, rows, rfl, e6, hp6, hr6, hit, hI⟩
    have tail : ∀ (DB DC : L2.St → Hp → Prop) (H7 : Hp) (σ7 : L2.St) (at1 ex1 : Nat) (c1 : Int), σ7 = [some (.ref d), some (.ref p), some (.ref r), some (.int c1), some (.int (ex1 : Int)), some (.int (at1 : Int)), some (.int (i : Int)), z7, z8] → Ex H' H7 → RowsM ws (cfL l) (totC l) (2 * (2 * N + C) + 1) (2 ^ 101 + 1) i at1 ex1 c1 rows →
        (tSeq (tIfS (tTest (tOp rEq (tOp xMod (tCB xInt1 (tCons (tVar 3) tNil)) (tC (.int 2))) (tC (.int 1)))) (tSeq (tAsg (tC (.int 0)) (gName 7))
    (tSeq (tIfS (tAnd (tTest (tOp xLt (tVar 5) (tCB (rLenS K) (tCons (tVar 1) tNil)))) (tTest (tOp rEq (tOp (rIxL K) (tVar 1) (tVar 5)) (tOp xAdd (tVar 4) (tC (.int 1)))))) (tAsg (tDGet (tVar 0) (tOp xAdd (tVar 4) (tC (.int 1)))) (gName 7)) tNext)
    (tSeq (tAsg (tOp xSub (tC (.int 2)) (tOp xMod (tCB xInt1 (tCons (tOp xAdd (tVar 3) (tOp xMul (tC (.int 2)) (tVar 7))) tNil)) (tC (.int 4)))) (gName 8))
    (tSeq (tDrop (tBM K "list" rAppend (tVar 2) (tCons (tTup (tCons (tVar 8) (tCons (tVar 4) tNil))) tNil)))
    (tAsg (tOp xSub (tVar 3) (tVar 8)) (gName 3)))))) tNext)
    (tSeq (tAsg (tOp xFdiv (tVar 3) (tC (.int 2))) (gName 3))
    (tAsg (tOp xAdd (tVar 4) (tC (.int 1))) (gName 4)))) { nx := fun σ' H' => ∃ (z6 z7 z8 : Option V) (at' ex : Nat) (c : Int) (zs : List V) (rows : List (Int × Nat)), σ' = [some (.ref d), some (.ref p), some (.ref r), some (.int c), some (.int (ex : Int)), some (.int (at' : Int)), z6, z7, z8] ∧ Ex H H' ∧ H' p = some (.lst ((natI ws).map V.int)) ∧ H' r = some (.lst zs) ∧ ItemsR PairI rows zs H' ∧ RowsI ws (cfL l) (totC l) (2 * (2 * N + C) + 1) (2 ^ 101 + 1) (i + 1) at' ex c rows, rt := Q, bk := DB, ct := DC } σ7 H7 := by
      rintro DB DC H7 σ7 at1 ex1 c1 rfl e7 hM'
      have hlenr : zs.length < 100000 := by rw [hit.1]; have := hM'.len; omega
      refine q_when (et_test (ev_eq (ev_mod (ev_int1 (ev_var rfl)) ev_c (by decide)) ev_c rfl)) (fun hc H8 e8 => ?_) (fun hc H8 e8 => ?_)
      · have hodd : c1 % 2 = 1 := by simpa using hc
        refine q_asg ev_c fun H9 e9 => ?_
        have e79 := e7.trans (e8.trans e9)
        have hp9 := e79 p _ hp6
        have hd9 := (e6.trans e79) d _ hd
        have hnx : EvT (tAnd (tTest (tOp xLt (tVar 5) (tCB (rLenS K) (tCons (tVar 1) tNil)))) (tTest (tOp rEq (tOp (rIxL K) (tVar 1) (tVar 5)) (tOp xAdd (tVar 4) (tC (.int 1)))))) [some (.ref d), some (.ref p), some (.ref r), some (.int c1), some (.int (ex1 : Int)), some (.int (at1 : Int)), some (.int (i : Int)), some (.int 0), z8] H9 (decide (ws[at1]? = some (ex1 + 1))) := by
          cases hw : ws[at1]? with
          | none =>
            have hge := List.getElem?_eq_none_iff.mp hw
            refine et_is (et_and (a := false) (b := true) (et_is (et_test (ev_lt (ev_var rfl) (ev_len (ev_var rfl) (sq_of hp9)))) (decide_eq_false (by unfold natI; rw [List.length_map, List.length_map]; omega))) fun q => by cases q) rfl
          | some w =>
            have hlt := (List.getElem?_eq_some_iff.mp hw).1
            refine et_is (et_and (a := true) (et_is (et_test (ev_lt (ev_var rfl) (ev_len (ev_var rfl) (sq_of hp9)))) (decide_eq_true (by unfold natI; rw [List.length_map, List.length_map]; omega))) fun _ => et_test (ev_eq (ev_nat (ev_var rfl) (ev_var rfl) hp9 hw) (ev_add (ev_var rfl) ev_c) rfl)) ?_
            rw [dec_int, Bool.true_and]
            exact decide_eq_decide.mpr ⟨fun h => congrArg some (by omega), fun h => by injection h with h; omega⟩
        refine q_ifAsg (v := .int (nextC ws (cfL l) at1 (ex1 + 1))) hnx (fun hb => ?_) (fun hb => ?_) fun H10 e10 => ?_
        · have hw := of_decide_eq_true hb
          unfold nextC
          rw [if_pos hw]
          exact ev_dget (ev_var rfl) (ev_add (ev_var rfl) ev_c) hd9 (by
            show valV (dk l) (Sum.inl (((ex1 + 1 : Nat)) : Int)) = _
            rw [valV_dk, getC_has (hmem hw)]; rfl)
        · have hw := of_decide_eq_false hb
          unfold nextC
          rw [if_neg hw]; rfl
        refine q_asg (ev_sub ev_c (ev_mod (ev_int1 (ev_add (ev_var rfl) (ev_mul ev_c (ev_var rfl) (.inl (by decide))))) ev_c (by decide))) fun H11 e11 => ?_
        have e711 := e79.trans (e10.trans e11)
        refine q_appU (ys := [.int (2 - (c1 + 2 * nextC ws (cfL l) at1 (ex1 + 1)) % 4), .int (ex1 : Int)]) (e711 r _ hr6) (ev_var rfl) (eu_tup (ea_cons (ev_var rfl) (ea_cons (ev_var rfl) ea_nil)) (by show 2 ≤ 100000; decide)) hlenr fun q H12 hq e12 h12 => ?_
        refine s_asg (ev_sub (ev_var rfl) (ev_var rfl)) fun H13 e13 => ?_
        refine q_asg (ev_fdiv (ev_var rfl) ev_c ⟨by decide, by decide⟩) fun H14 e14 => ?_
        refine s_asg (ev_add (ev_var rfl) ev_c) fun H15 e15 => ?_
        have e712 := e711.trans e12
        have hqr : q ≠ r := fun z => by rw [z, e712 r _ hr6] at h12; cases h12
        have ht : TEx H12 (upd H12 r (.lst (zs ++ [V.ref q]))) := TEx.put (e712 r _ hr6)
        have e1315 := e13.trans (e14.trans e15)
        exact ⟨_, _, _, at1, ex1 + 1, _, zs ++ [.ref q], rows ++ [(2 - (c1 + 2 * nextC ws (cfL l) at1 (ex1 + 1)) % 4, ex1)], rfl, (Ex.mut (e6.trans e712) hr0).trans e1315, e1315 p _ (by rw [upd_ne hpr]; exact e712 p _ hp6), e1315 r _ upd_same,
          ((hit.tex pairI ((Ex.t e712).trans ht)).snoc ⟨q, rfl, by rw [upd_ne hqr]; exact h12⟩).tex pairI (Ex.t e1315), hM'.odd hodd rfl⟩
      · have hev : c1 % 2 = 0 := by
          have : c1 % 2 ≠ 1 := by simpa using hc
          omega
        refine q_asg (ev_fdiv (ev_var rfl) ev_c ⟨by decide, by decide⟩) fun H14 e14 => ?_
        refine s_asg (ev_add (ev_var rfl) ev_c) fun H15 e15 => ?_
        have e715 := e7.trans (e8.trans (e14.trans e15))
        exact ⟨_, _, _, at1, ex1 + 1, _, zs, rows, rfl, e6.trans e715, e715 p _ hp6, e715 r _ hr6, hit.tex pairI (Ex.t e715), hM'.even hev⟩
    have out0 : at' = ws.length → c = 0 → RowsOut (2 * (2 * N + C) + 1) l rows := fun q1 q2 => by
      subst q1 q2
      have hh := hI.ht
      have hn := hI.len
      have hpt := hI.pot
      exact ⟨hI.gap, hI.sg, hI.done, fun x hx => by rcases hI.last x hx with q | ⟨q, _⟩ <;> omega, by omega⟩
    cases hw : ws[at']? with
    | none =>
      have hge := List.getElem?_eq_none_iff.mp hw
      have hat : at' = ws.length := by have := hI.le; omega
      refine q_when (et_and (a := true) (b := decide (c = 0)) (et_is (et_test (ev_eq (ev_var rfl) (ev_len (ev_var rfl) (sq_of hp6)) rfl)) (by rw [dec_int]; exact decide_eq_true (by unfold natI; rw [List.length_map, List.length_map]; omega))) fun _ => et_is (et_test (ev_eq (ev_var rfl) ev_c rfl)) dec_int) (fun hc H7 e7 => ?_) (fun hc H7 e7 => ?_)
      · rw [Bool.true_and] at hc
        exact fin H7 _ _ _ _ _ _ _ zs rows rfl (e6.trans e7) (e7 r _ hr6) (hit.tex pairI (Ex.t e7)) (out0 hat (of_decide_eq_true hc))
      · rw [Bool.true_and] at hc
        refine q_when (et_and (a := false) (b := true) (et_is (et_test (ev_lt (ev_var rfl) (ev_len (ev_var rfl) (sq_of (e7 p _ hp6))))) (decide_eq_false (by unfold natI; rw [List.length_map, List.length_map]; omega))) fun q => by cases q) (fun hb => by cases hb) (fun _ H8 e8 => ?_)
        exact tail _ _ H8 _ at' ex c rfl (e7.trans e8) (hI.pass hst (of_decide_eq_false hc) (by rw [hw]; exact fun q => by cases q))
    | some w =>
      have hlt := (List.getElem?_eq_some_iff.mp hw).1
      refine q_when (et_and (a := false) (b := true) (et_is (et_test (ev_eq (ev_var rfl) (ev_len (ev_var rfl) (sq_of hp6)) rfl)) (by rw [dec_int]; exact decide_eq_false (by unfold natI; rw [List.length_map, List.length_map]; omega))) fun q => by cases q) (fun hb => by cases hb) (fun _ H7 e7 => ?_)
      refine q_when (et_and (a := true) (et_is (et_test (ev_lt (ev_var rfl) (ev_len (ev_var rfl) (sq_of (e7 p _ hp6))))) (decide_eq_true (by unfold natI; rw [List.length_map, List.length_map]; omega))) fun _ => et_or (a := decide (c = 0)) (b := decide (w = ex)) (et_is (et_test (ev_eq (ev_var rfl) ev_c rfl)) dec_int) fun _ => et_is (et_test (ev_eq (ev_nat (ev_var rfl) (ev_var rfl) (e7 p _ hp6) hw) (ev_var rfl) rfl)) (by rw [dec_int]; exact decide_eq_decide.mpr (by omega))) (fun hc H8 e8 => ?_) (fun hc H8 e8 => ?_)
      · rw [Bool.true_and, Bool.or_eq_true, decide_eq_true_eq, decide_eq_true_eq] at hc
        refine q_asg (ev_nat (ev_var rfl) (ev_var rfl) ((e7.trans e8) p _ hp6) hw) fun H9 e9 => ?_
        have e79 := e7.trans (e8.trans e9)
        refine q_asg (ev_add (ev_var rfl) (ev_dget (ev_var rfl) (ev_var rfl) ((e6.trans e79) d _ hd) (by rw [valV_dk, getC_has (hmem hw)]; rfl))) fun H10 e10 => ?_
        refine s_asg (ev_add (ev_var rfl) ev_c) fun H11 e11 => ?_
        exact tail _ _ H11 _ (at' + 1) w (c + cfL l w) rfl (e79.trans (e10.trans e11)) (hI.take hw hst (hM hw) hc)
      · rw [Bool.true_and, Bool.or_eq_false_iff, decide_eq_false_iff_not, decide_eq_false_iff_not] at hc
        exact tail _ _ H8 _ at' ex c rfl (e7.trans e8) (hI.pass hst hc.1 (by rw [hw]; exact fun q => hc.2 (by injection q)))
  · rintro σ H' ⟨z6, z7, z8, at', ex, c, zs, rows, rfl, e6, hp6, hr6, hit, hI⟩
    have := hI.pot
    have h9 : (9000 : Int).toNat = 9000 := rfl
    omega
end Sk

set_option Elab.async false
set_option linter.all false
set_option maxRecDepth 100000
set_option maxHeartbeats 2000000
namespace Sk
open PySem L2 Evl
theorem gap_len : ∀ (l : List (Int × Nat)) (p m : Nat), l.Pairwise (fun x y => x.2 + 2 ≤ y.2) → (∀ x ∈ l, p ≤ x.2 ∧ x.2 ≤ m) → 2 * l.length ≤ m + 2 - p
  | [], p, m, _, _ => Nat.zero_le _
  | [x], p, m, _, h => by
    have := h x List.mem_cons_self
    show 2 * 1 ≤ _
    omega
  | x :: y :: l, p, m, hg, h => by
    have hg' := List.pairwise_cons.mp hg
    have hx := h x List.mem_cons_self
    have ih := gap_len (y :: l) (x.2 + 2) m hg'.2 fun z hz => ⟨hg'.1 z hz, (h z (List.mem_cons_of_mem _ hz)).2⟩
    have hy := hg'.1 y List.mem_cons_self
    have hy2 := (h y (List.mem_cons_of_mem _ List.mem_cons_self)).2
    rw [List.length_cons]
    omega
theorem sz128 : ∀ p : Nat, p < 128 → (toT (p : Int)).size ≤ 20 := by
  have h : ∀ p : Nat, p < 128 → costF 13 p 0 ≤ 19 := by decide +kernel
  intro p hp
  rw [sz_cost p (by omega)]
  have := h p hp
  omega
theorem size_97 {n : Nat} (h : n ≤ 2 ^ 102) : (toT (n : Int)).size ≤ 1041 := by
  have hp : ∀ x ∈ naf (n : Int) 0, x.2 ≤ 102 := fun x hx => naf_le (by simpa using h) hx
  have hl := gap_len (naf (n : Int) 0) 0 102 (naf_gap _ _ (Nat.le_refl _) 0) fun x hx => ⟨Nat.zero_le _, hp x hx⟩
  rw [size_toT]
  have := sum_all ((naf (n : Int) 0).map (·.2)) (fun p : Nat => (toT (p : Int)).size) 20 fun p hp' => by
    obtain ⟨x, hx, rfl⟩ := List.mem_map.mp hp'
    have := hp x hx
    exact sz128 x.2 (by omega)
  rw [List.length_map] at this
  omega
theorem height_97 {n : Nat} (h : n ≤ 2 ^ 102) : (toT (n : Int)).height ≤ 6 := height_toT 6 _ (lt_Cb7 (k := 103) (by
  have : (n : Int).natAbs = n := Int.natAbs_natCast n
  rw [this]
  have h2 : (2 : Nat) ^ 103 = 2 ^ 102 * 2 := Nat.pow_succ 2 102
  have h3 : 0 < 2 ^ 102 := Nat.two_pow_pos 102
  omega) (by decide))
def rowsT (rows : List (Int × Nat)) : T := ofL (rows.reverse.map fun x => (x.1, toT (x.2 : Int)))
theorem val_rows (l : List (Int × Nat)) : (ofL (l.map fun x => (x.1, toT (x.2 : Int)))).val = sumP l := by
  induction l with
  | nil => rfl
  | cons x r ih =>
    obtain ⟨s, p⟩ := x
    rw [List.map_cons, ofL, T.val, ih, sumP, toT_val]
    rfl
theorem size_ofL : ∀ l : List (Int × T), (ofL l).size = 1 + (l.map fun x => x.2.size).sum
  | [] => rfl
  | (s, e) :: r => by
    rw [ofL, List.map_cons, List.sum_cons]
    have := size_ofL r
    show e.size + (ofL r).size = 1 + (e.size + _)
    omega
theorem height_ofL : ∀ (l : List (Int × T)) (m : Nat), (∀ x ∈ l, x.2.height + 1 ≤ m) → (ofL l).height ≤ m
  | [], m, _ => Nat.zero_le _
  | (s, e) :: r, m, h => Nat.max_le.mpr ⟨h (s, e) List.mem_cons_self, height_ofL r m fun x hx => h x (List.mem_cons_of_mem _ hx)⟩
/-- a number made of counts -/
structure Mdl (l : List (Nat × Int)) (t : T) : Prop where
  can : t.can
  val : t.val = totC l
  size : t.size < 90000
  height : t.height ≤ 7
theorem RowsOut.mdl {P : Nat} {l : List (Nat × Int)} {rows : List (Int × Nat)} (h : RowsOut P l rows) (hP : P ≤ 85) : Mdl l (rowsT rows) := by
  have h97 : ∀ x ∈ rows, x.2 ≤ 2 ^ 102 := fun x hx => by
    have h1 := h.ht x hx
    have h2 : (2 : Nat) ^ 101 + 9000 ≤ 2 ^ 102 := by decide
    omega
  refine ⟨can_ofL (fun x hx => ?_) ?_, ?_, ?_, height_ofL _ _ fun x hx => ?_⟩
  · obtain ⟨y, hy, rfl⟩ := List.mem_map.mp hx
    exact ⟨h.sg y (List.mem_reverse.mp hy), by show 0 ≤ (toT (y.2 : Int)).val; rw [toT_val]; omega, toT_can _⟩
  · rw [List.pairwise_map, List.pairwise_reverse]
    refine h.gap.imp fun {x y} h => ?_
    show (toT (x.2 : Int)).val + 2 ≤ (toT (y.2 : Int)).val
    rw [toT_val, toT_val]
    omega
  · unfold rowsT
    rw [val_rows, sumP_reverse, h.val]
  · unfold rowsT
    rw [size_ofL, List.map_map]
    have := sum_all (rows.reverse.map (·.2)) (fun p : Nat => (toT (p : Int)).size) 1041 fun p hp' => by
      obtain ⟨x, hx, rfl⟩ := List.mem_map.mp hp'
      exact size_97 (h97 x (List.mem_reverse.mp hx))
    rw [List.length_map, List.length_reverse, List.map_map] at this
    have hl := h.len
    have e : ((fun x : Int × T => x.2.size) ∘ fun x : Int × Nat => (x.1, toT (x.2 : Int))) = ((fun p : Nat => (toT (p : Int)).size) ∘ fun x : Int × Nat => x.2) := rfl
    rw [e]
    omega
  · obtain ⟨y, hy, rfl⟩ := List.mem_map.mp hx
    have := height_97 (h97 y (List.mem_reverse.mp hy))
    show (toT (y.2 : Int)).height + 1 ≤ 7
    omega
def pLawNumber (K : PySem.W.Frag) : V → Hp → VP → Prop := fun x H R => ∃ (d : Addr) (l : List (Nat × Int)) (N C : Nat), x = .ref d ∧ H d = some (.dK (dk l)) ∧ CtsL N C l ∧ 2 * (2 * N + C) + 1 ≤ 85 ∧ R = fun v H' => ∃ t, NumV K H' v t ∧ Mdl l t
def sp_law_number (K : PySem.W.Frag) : Sp := spF1 (pLawNumber K)
def t_law_number (K : PySem.W.Frag) : TS := (tRet (tThen (tLc (iList K (tCall (sp_law_rows K) [] E0 (tCons (tVar 0) tNil))) (gName 1) tYes (tTup (tCons (tOp (rIxT K) (tVar 1) (tC (.int 0))) (tCons (tCall (sp_law_of K 7) [] E0 (tCons (tOp (rIxT K) (tVar 1) (tC (.int 1))) tNil)) tNil))) [1]) (kTup K)))
theorem pure_law_number {K : PySem.W.Frag} {vs : List V} {H : Hp} {Q : VK} {E : XK} (h : sp_law_number K vs H Q E) : t_law_number K { nx := fun _ H' => Q .non H', rt := Q } (start ["counts", "row"] vs) H := by
  obtain ⟨x, R, rfl, ⟨d, l, N, C, rfl, hd, hl, hP, rfl⟩, k⟩ := h
  refine s_retR (R := fun v H' => ∃ t, NumV K H' v t ∧ Mdl l t) (fun H0 e0 Qk qq => ?_) fun v H1 e1 h => k v H1 e1 h
  refine er_tupleOf (K := K) (R := fun zs H2 => ∃ rows, RowsOut (2 * (2 * N + C) + 1) l rows ∧ ItemsR (TermI K) (rows.reverse.map fun x : Int × Nat => (x.1, toT (x.2 : Int))) zs H2) ?_ (fun zs H1 H2 e ⟨rows, h1, h2⟩ => ⟨rows, h1, h2.tex termI (Ex.t e)⟩) H0 e0 _ fun v H1 e1 ⟨p, zs, hv, g1, rows, g2, g3⟩ => qq v H1 e1 ⟨rowsT rows, by rw [hv]; exact NumV.mk (st_of g1) (terms_items g3), g2.mdl hP⟩
  refine (er_lcL (S := fun xs H2 => ∃ rows, RowsOut (2 * (2 * N + C) + 1) l rows ∧ ItemsR PairI rows.reverse xs H2) (R := fun xs i v H2 => ∃ z a, xs[i]? = some z ∧ PairI a z H2 ∧ TermI K (a.1, toT (a.2 : Int)) v H2)
    ((er_call1 (R1 := fun v _ => v = .ref d) (er_is (ev_var rfl)) monoC (fun v H2 e2 hv => ⟨d, l, N, C, hv, e2 d _ hd, hl, by omega, by omega, rfl⟩)).imp fun v H2 e2 ⟨rows, hr, p, ys, hv, hp, hit⟩ => ⟨p, ys, hv, sq_of hp, rows, hr, hit⟩)
    (fun xs H1 H2 e ⟨rows, h1, h2⟩ => ⟨rows, h1, h2.tex pairI (Ex.t e)⟩) (fun xs H2 ⟨rows, h1, h2⟩ => by rw [h2.1, List.length_reverse]; have := h1.len; omega)
    (fun xs i v H1 H2 e ⟨z, a, h1, h2, h3⟩ => ⟨z, a, h1, pairI a z _ _ e h2, termI _ v _ _ e h3⟩) ?_).imp ?_
  · rintro xs i x H1 hi e1 ⟨rows, hr, hit⟩ Qk2 kk
    obtain ⟨⟨s, pl⟩, ha, q, rfl, hq⟩ := hit.of_at hi
    have hm : (s, pl) ∈ rows := List.mem_reverse.mp (List.mem_of_getElem? ha)
    have hpl := hr.ht _ hm
    have hp97 : pl ≤ 2 ^ 102 := by
      have h2 : (2 : Nat) ^ 101 + 9000 ≤ 2 ^ 102 := by decide
      have h3 : pl ≤ 2 ^ 101 + 9001 := hpl
      omega
    refine ⟨rfl, ?_⟩
    refine (er_tup (ea_two (R := fun v _ => v = .int s) (R' := fun v H2 => NumV K H2 v (toT (pl : Int))) (er_is (ev_atT (ev_var rfl) ev_c (st_of hq) rfl)) monoC (er_call1 (R1 := fun v _ => v = .int (pl : Int)) (er_is (ev_atT (ev_var rfl) ev_c (st_of hq) rfl)) monoC fun v H2 e2 hv => ⟨pl, hv, lt_Cb7 (k := 103) (by
        have : ((pl : Nat) : Int).natAbs = pl := Int.natAbs_natCast pl
        rw [this]
        have h2 : (2 : Nat) ^ 103 = 2 ^ 102 * 2 := Nat.pow_succ 2 102
        have h3 : 0 < 2 ^ 102 := Nat.two_pow_pos 102
        omega) (by decide), by decide, by
        have : ((pl : Nat) : Int).natAbs = pl := Int.natAbs_natCast pl
        rw [this]
        exact Nat.le_trans hp97 (Nat.pow_le_pow_right (by decide) (by decide)), rfl⟩) (numT.mono))
      (fun vs H2 H3 e ⟨v, w, h1, h2, h3⟩ => ⟨v, w, h1, h2, h3.ex e⟩) (fun vs H2 ⟨v, w, h1, _⟩ => by rw [h1]; show 2 ≤ 100000; omega)) H1 (Ex.refl H1) _ fun v H2 e2 ⟨p, vs, hv, h1, u, w, h2, h3, h4⟩ => kk v H2 e2 ⟨.ref q, (s, pl), hi, ⟨q, rfl, e2 q _ hq⟩, p, w, hv, st_of (by rw [h1, h2, h3]), h4⟩
  · rintro v H1 e1 ⟨p, xs, ys, hv, _, hp, ⟨rows, hr, hit⟩, hlen, hR⟩
    refine ⟨p, ys, hv, sq_of hp, rows, hr, ⟨by rw [List.length_map, hlen, hit.1], fun i y a g1 g2 => ?_⟩⟩
    obtain ⟨z, b, k1, ⟨q, rfl, k2⟩, k3⟩ := hR i y g1
    obtain ⟨c, k4, q', k5, k6⟩ := hit.of_at k1
    injection k5 with k5
    subst k5
    rw [k2] at k6
    injection k6 with k6
    injection k6 with k6
    injection k6 with m1 m2
    injection m2 with m2 m3
    injection m1 with m1
    injection m2 with m2
    rw [List.getElem?_map, k4] at g2
    injection g2 with g2
    have hcb : c = b := by
      obtain ⟨c1, c2⟩ := c
      obtain ⟨b1, b2⟩ := b
      have h1 : b1 = c1 := m1
      have h2 : (b2 : Int) = (c2 : Int) := m2
      have h3 : b2 = c2 := by omega
      rw [h1, h3]
    rw [← g2, hcb]
    exact k3
end Sk

set_option Elab.async false
set_option linter.all false
set_option maxRecDepth 100000
set_option maxHeartbeats 2000000
namespace Sk
open PySem L2 Evl
/-! ### the law's value of a tuple, and whether it is a number's form -/
/-- signs are small (and lists not too long for the machine) -/
def T.sm : T → Prop
  | .nil => True
  | .cons s e r => (s.natAbs ≤ 3 ∧ e.toL.length < 100000) ∧ e.sm ∧ r.sm
theorem sm_toL : ∀ {t : T}, t.sm → ∀ x ∈ t.toL, (x.1.natAbs ≤ 3 ∧ x.2.toL.length < 100000) ∧ x.2.sm
  | .nil, _, x, hx => by cases hx
  | .cons s e r, h, x, hx => by
    rcases List.mem_cons.mp hx with rfl | hx
    · exact ⟨h.1, h.2.1⟩
    · exact sm_toL h.2.2 x hx
def T.lval : T → Option Int
  | .nil => some 0
  | .cons s e r => match e.lval with
    | none => none
    | some v => if v < 0 ∨ 400 < v then none else (r.lval).map (s * 2 ^ v.toNat + ·)
theorem lval_val : ∀ {t : T} {v : Int}, t.lval = some v → v = t.val
  | .nil, v, h => by injection h with h; exact h.symm
  | .cons s e r, v, h => by
    rw [T.lval] at h
    cases he : e.lval with
    | none => rw [he] at h; cases h
    | some p =>
      rw [he] at h
      simp only at h
      split at h
      · cases h
      · cases hr : r.lval with
        | none => rw [hr] at h; cases h
        | some z =>
          rw [hr] at h
          injection h with h
          rw [T.val, ← lval_val he, ← lval_val hr]
          exact h.symm
theorem exp_9 {s : Int} {e r : T} (h : (T.cons s e r).can) (hv : (T.cons s e r).val.natAbs ≤ 400) : e.val ≤ 9 ∧ r.val.natAbs ≤ 400 := by
  obtain ⟨h1, h2⟩ := can_big h
  have h3 : e.val.toNat < 10 := by
    apply Nat.lt_of_not_le
    intro q
    have : 2 ^ 10 ≤ 2 ^ e.val.toNat := Nat.pow_le_pow_right (by decide) q
    have h10 : (2 : Nat) ^ 10 = 1024 := by decide
    omega
  omega
theorem lval_can : ∀ {t : T}, t.can → t.val.natAbs ≤ 400 → t.lval = some t.val
  | .nil, _, _ => rfl
  | .cons s e r, h, hv => by
    obtain ⟨h1, h2⟩ := exp_9 h hv
    have h0 := h.1.2.1
    rw [T.lval, lval_can h.2.1 (by omega)]
    simp only
    rw [if_neg (by omega), lval_can h.2.2 h2]
    rfl
theorem exps_9 : ∀ {t : T}, t.can → t.val.natAbs ≤ 400 → ∀ x ∈ t.toL, x.2.val ≤ 400
  | .nil, _, _, x, hx => by cases hx
  | .cons s e r, h, hv, x, hx => by
    obtain ⟨h1, h2⟩ := exp_9 h hv
    rcases List.mem_cons.mp hx with rfl | hx
    · show e.val ≤ 400; omega
    · exact exps_9 h.2.2 h2 x hx
def T.lgood : T → Option Int → Bool
  | .nil, _ => true
  | .cons s e r, b => if ¬ (s = 1 ∨ s = -1) ∨ e.lgood none = false then false else match e.lval with
    | none => false
    | some v => if v < 0 ∨ (∃ b0, b = some b0 ∧ b0 - v < 2) then false else r.lgood (some v)
theorem lgood_can : ∀ {t : T} {b : Option Int}, t.lgood b = true → t.can ∧ ∀ b0, b = some b0 → 0 ≤ b0 → t.lead + 2 ≤ b0
  | .nil, b, _ => ⟨True.intro, fun b0 _ h => h⟩
  | .cons s e r, b, h => by
    rw [T.lgood] at h
    split at h
    · cases h
    · rename_i h1
      have h1' : (s = 1 ∨ s = -1) ∧ e.lgood none = true := ⟨Classical.not_not.mp fun q => h1 (.inl q), by
        cases hq : e.lgood none with
        | true => rfl
        | false => exact absurd (.inr hq) h1⟩
      cases hv : e.lval with
      | none => rw [hv] at h; cases h
      | some v =>
        rw [hv] at h
        simp only at h
        split at h
        · cases h
        · rename_i h2
          have hve := lval_val hv
          obtain ⟨g1, g2⟩ := lgood_can h
          have hv0 : 0 ≤ v := by
            apply Int.not_lt.mp
            exact fun q => h2 (.inl q)
          have g3 := g2 v rfl hv0
          refine ⟨⟨⟨h1'.1, by omega, by omega⟩, (lgood_can h1'.2).1, g1⟩, fun b0 hb h0 => ?_⟩
          have : ¬ b0 - v < 2 := fun q => h2 (.inr ⟨b0, hb, q⟩)
          show e.val + 2 ≤ b0
          omega
theorem can_lgood : ∀ {t : T} {b : Option Int}, t.can → (∀ x ∈ t.toL, x.2.val ≤ 400) → (∀ b0, b = some b0 → t.lead + 2 ≤ b0) → t.lgood b = true
  | .nil, b, _, _, _ => by rw [T.lgood]
  | .cons s e r, b, h, hx, hb => by
    have he := hx (s, e) List.mem_cons_self
    have h0 := h.1.2.1
    have he' : e.val ≤ 400 := he
    rw [T.lgood, if_neg, lval_can h.2.1 (by omega)]
    · simp only
      rw [if_neg]
      · exact can_lgood h.2.2 (fun x q => hx x (List.mem_cons_of_mem _ q)) fun b0 q => by injection q with q; rw [← q]; exact h.1.2.2
      · rintro (q | ⟨b0, q1, q2⟩)
        · omega
        · have : e.val + 2 ≤ b0 := hb b0 q1
          omega
    · rintro (q | q)
      · exact q h.1.1
      · rw [can_lgood h.2.1 (exps_9 h.2.1 (by omega)) (fun b0 q => by cases q)] at q
        cases q
def pLawValue (K : PySem.W.Frag) (d : Nat) : V → Hp → VP → Prop := fun x H R => ∃ t : T, NumV K H x t ∧ t.sm ∧ t.height < d ∧ t.toL.length < 100000 ∧ R = fun v _ => v = optV t.lval
def sp_law_value (K : PySem.W.Frag) (d : Nat) : Sp := spF1 (pLawValue K d)
def t_law_value (K : PySem.W.Frag) (d : Nat) : TS := (tSeq (tAsg (tC (.int 0)) (gName 1))
    (tSeq (tFor (iTup K (tVar 0)) (gTup K 2 (gCons (gName 2) (gCons (gName 3) gNil))) (tSeq (tAsg (tCall (sp_law_value K d) [] E0 (tCons (tVar 3) tNil)) (gName 4))
    (tSeq (tIfS (tOr (tTest (tOp xIsN (tVar 4) (tC .non))) (tOr (tTest (tOp xLt (tVar 4) (tC (.int 0)))) (tTest (tOp xGt (tVar 4) (tC (.int 400)))))) (tRet (tC .non)) tNext)
    (tAsg (tOp xAdd (tVar 1) (tOp xMul (tVar 2) (tCall (sp_law_two K) [] E0 (tCons (tCB xMin2 (tCons (tVar 4) (tCons (tC (.int 400)) tNil))) tNil)))) (gName 1)))))
    (tRet (tVar 1))))
/-- behind i terms the total is so far what the rest is added to -/
def WLval (v : V) (t : T) (H0 : Hp) (i : Nat) (σ : L2.St) (H : Hp) : Prop := ∃ (tot : Int) (z2 z3 z4 : Option V), σ = [some v, some (.int tot), z2, z3, z4] ∧ Ex H0 H ∧
  t.lval = ((ofL (t.toL.drop i)).lval).map (tot + ·)
theorem drop_atT {t : T} {i : Nat} {x : Int × T} (h : t.toL[i]? = some x) : t.toL.drop i = x :: t.toL.drop (i + 1) := by
  have hlt : i < t.toL.length := (List.getElem?_eq_some_iff.mp h).1
  rw [List.drop_eq_getElem_cons hlt]
  congr 1
  exact (List.getElem?_eq_some_iff.mp h).2
theorem pure_law_value {K : PySem.W.Frag} {d : Nat} {vs : List V} {H : Hp} {Q : VK} {E : XK} (h : sp_law_value K (d + 1) vs H Q E) : t_law_value K d { nx := fun _ H' => Q .non H', rt := Q } (start ["number", "total", "sign", "exponent", "value"] vs) H := by
  obtain ⟨x, R, rfl, ⟨t, hx, hsm, hh, hl, rfl⟩, k⟩ := h
  obtain ⟨a, xs, rfl, hs, ht⟩ := hx.out
  have hit := items_terms ht
  refine q_asg ev_c fun H1 e1 => ?_
  refine q_forT (xs := xs) (ev_var rfl) (ex_t e1 hs) (WLval (.ref a) t H) (fun H2 e2 => ⟨0, none, none, none, rfl, e1.trans e2, ?_⟩) (fun i σ' H' _ ⟨_, _, _, _, _, e, _⟩ => ex_t e hs) ?_ ?_
  · rw [List.drop_zero, ofL_toL]; cases t.lval <;> simp
  · rintro i x σ' H' hi ⟨tot, z3, z4, z5, rfl, e2, hw⟩
    obtain ⟨⟨s, e⟩, hget, p, w, rfl, hp, hwv⟩ := (hit.ex (fun a => (termI a).mono) e2).of_at hi
    have hmem : (s, e) ∈ t.toL := List.mem_of_getElem? hget
    obtain ⟨⟨hsg, hel⟩, hen⟩ := sm_toL hsm _ hmem
    have hsg' : s.natAbs ≤ 3 := hsg
    rw [drop_atT hget, ofL, T.lval] at hw
    refine g_pair hp ?_
    refine q_asgR (R := fun v _ => v = optV e.lval) (er_call1 (R1 := fun v H => NumV K H v e) (er_var rfl fun H1 e1 => hwv.ex e1) numT.mono ?_) fun v H3 e3 hv => ?_
    · rintro v H1 e1 h1
      exact ⟨e, h1, hen, by have h := T.height_mem hmem; have h' : e.height < t.height := h; omega, hel, rfl⟩
    subst hv
    cases hq : e.lval with
    | none =>
      rw [hq] at hw
      refine q_when (b := true) ?_ (fun _ H4 e4 => ?_) (fun h => by cases h)
      · exact et_or (a := true) (b := false) (et_test (ev_is (ev_isN (ev_var rfl)) rfl)) (fun h => by cases h)
      · exact s_ret ev_c fun H5 e5 => k _ _ ((e2.trans e3).trans (e4.trans e5)) (by rw [hw]; rfl)
    | some q =>
      rw [hq] at hw
      simp only at hw
      refine q_when (b := decide (q < 0) || decide (400 < q)) ?_ (fun hc H4 e4 => ?_) (fun hc H4 e4 => ?_)
      · exact et_is (et_or (a := false) (b := decide (q < 0) || decide (400 < q)) (et_test (ev_is (ev_isN (ev_var rfl)) rfl)) (fun _ => et_or (et_test (ev_lt (ev_var rfl) ev_c)) fun _ => et_test (ev_gt (ev_var rfl) ev_c))) (Bool.false_or _)
      · rw [Bool.or_eq_true, decide_eq_true_eq, decide_eq_true_eq] at hc
        rw [if_pos hc] at hw
        exact s_ret ev_c fun H5 e5 => k _ _ ((e2.trans e3).trans (e4.trans e5)) (by rw [hw]; rfl)
      · rw [Bool.or_eq_false_iff, decide_eq_false_iff_not, decide_eq_false_iff_not] at hc
        rw [if_neg (by omega)] at hw
        have hmin : (if (400 : Int) < q then (400 : Int) else q) = q := if_neg hc.2
        refine s_asg (v := .int (tot + s * 2 ^ q.toNat)) (ev_add (ev_var rfl) (ev_mul (ev_var rfl) (ev_er (er_call1 (R1 := fun v _ => v = .int q) (er_is (ev_is (ev_min (ev_var rfl) ev_c) (by rw [hmin]))) monoC fun v H5 e5 hv => ⟨q.toNat, by rw [hv]; exact congrArg V.int (by omega), by omega, rfl⟩)) (.inl (by omega)))) fun H5 e5 => ⟨tot + s * 2 ^ q.toNat, _, _, _, rfl, (e2.trans e3).trans (e4.trans e5), ?_⟩
        rw [hw]
        cases (ofL (t.toL.drop (i + 1))).lval with
        | none => rfl
        | some z => show some (tot + (s * 2 ^ q.toNat + z)) = some (tot + s * 2 ^ q.toNat + z); rw [Int.add_assoc]
  · rintro σ' H' ⟨tot, z3, z4, z5, rfl, e2, hw⟩
    have : t.toL.drop xs.length = [] := List.drop_eq_nil_of_le (by rw [hit.1]; exact Nat.le_refl _)
    rw [this] at hw
    refine s_ret (ev_var rfl) fun H5 e5 => k _ _ (e2.trans e5) ?_
    rw [hw]
    show V.int tot = optV (some (tot + 0))
    rw [Int.add_zero] <;> rfl
def pLawLow (K : PySem.W.Frag) : V → Hp → VP → Prop := fun x H R => ∃ t : T, NumV K H x t ∧ t.sm ∧ t.height < 45 ∧ t.toL.length < 100000 ∧ R = fun v _ => v = .int (t.lval.getD 0)
def sp_law_low (K : PySem.W.Frag) : Sp := spF1 (pLawLow K)
def t_law_low (K : PySem.W.Frag) : TS := (tSeq (tAsg (tCall (sp_law_value K 45) [] E0 (tCons (tVar 0) tNil)) (gName 1))
    (tSeq (tIfS (tTest (tOp xIsN (tVar 1) (tC .non))) (tRet (tC (.int 0))) tNext)
    (tRet (tVar 1))))
theorem pure_law_low {K : PySem.W.Frag} {vs : List V} {H : Hp} {Q : VK} {E : XK} (h : sp_law_low K vs H Q E) : t_law_low K { nx := fun _ H' => Q .non H', rt := Q } (start ["exponent", "value"] vs) H := by
  obtain ⟨x, R, rfl, ⟨t, hx, hsm, hh, hl, rfl⟩, k⟩ := h
  refine q_asgR (R := fun v _ => v = optV t.lval) (er_call1 (R1 := fun v H => NumV K H v t) (er_var rfl fun H1 e1 => hx.ex e1) numT.mono fun v H1 e1 h1 => ⟨t, h1, hsm, hh, hl, rfl⟩) fun v H1 e1 hv => ?_
  subst hv
  cases hq : t.lval with
  | none =>
    refine q_when (b := true) (et_test (ev_is (ev_isN (ev_var rfl)) rfl)) (fun _ H4 e4 => ?_) (fun h => by cases h)
    exact s_ret ev_c fun H5 e5 => k _ _ (e1.trans (e4.trans e5)) (by rw [hq]; rfl)
  | some q =>
    refine q_when (b := false) (et_test (ev_is (ev_isN (ev_var rfl)) rfl)) (fun h => by cases h) (fun _ H4 e4 => ?_)
    exact s_ret (ev_var rfl) fun H5 e5 => k _ _ (e1.trans (e4.trans e5)) (by rw [hq]; rfl)
theorem vac_law_value {K : PySem.W.Frag} {vs : List V} {H : Hp} {Q : VK} {E : XK} (h : sp_law_value K 0 vs H Q E) : False := by obtain ⟨x, R, _, ⟨t, _, _, h, _⟩, _⟩ := h; exact Nat.not_lt_zero _ h
end Sk

set_option Elab.async false
set_option linter.all false
set_option maxRecDepth 100000
set_option maxHeartbeats 2000000
namespace Sk
open PySem L2 Evl
def pLawGood (K : PySem.W.Frag) (d : Nat) : V → Hp → VP → Prop := fun x H R => ∃ t : T, NumV K H x t ∧ t.sm ∧ t.height < d ∧ d ≤ 45 ∧ t.toL.length < 100000 ∧ R = fun v _ => v = .bl (t.lgood none)
def sp_law_good (K : PySem.W.Frag) (d : Nat) : Sp := spF1 (pLawGood K d)
def t_law_good (K : PySem.W.Frag) (d : Nat) : TS := (tSeq (tAsg (tC .non) (gName 1))
    (tSeq (tFor (iTup K (tVar 0)) (gTup K 2 (gCons (gName 2) (gCons (gName 3) gNil))) (tSeq (tIfS (tOr (tTest (tOp (rIn K true) (tVar 2) (tTup (tCons (tC (.int 1)) (tCons (tUn xNeg (tC (.int 1))) tNil))))) (tNot (tB (tCall (sp_law_good K d) [] E0 (tCons (tVar 3) tNil))))) (tRet (tC (.bl false))) tNext)
    (tSeq (tAsg (tCall (sp_law_value K 45) [] E0 (tCons (tVar 3) tNil)) (gName 4))
    (tSeq (tIfS (tOr (tTest (tOp xIsN (tVar 4) (tC .non))) (tOr (tTest (tOp xLt (tVar 4) (tC (.int 0)))) (tAnd (tTest (tOp xNotN (tVar 1) (tC .non))) (tTest (tOp xLt (tOp xSub (tVar 1) (tVar 4)) (tC (.int 2))))))) (tRet (tC (.bl false))) tNext)
    (tAsg (tVar 4) (gName 1))))))
    (tRet (tC (.bl true)))))
/-- behind i terms it is the rest that counts -/
def WLgood (v : V) (t : T) (H0 : Hp) (i : Nat) (σ : L2.St) (H : Hp) : Prop := ∃ (b : Option Int) (z2 z3 z4 : Option V), σ = [some v, some (optV b), z2, z3, z4] ∧ Ex H0 H ∧ t.lgood none = (ofL (t.toL.drop i)).lgood b
theorem ev_signIn {K : PySem.W.Frag} {σ : L2.St} {H : Hp} {i : Nat} {s : Int} (h : σ[i]? = some (some (.int s))) : Ev (tOp (rIn K true) (tVar i) (tTup (tCons (tC (.int 1)) (tCons (tUn xNeg (tC (.int 1))) tNil)))) σ H (.bl (!decide (s = 1 ∨ s = -1))) := by
  refine fun H1 e1 Q q => (ev_var h) H1 (e1) _ fun H2 e2 => ?_
  refine eu_tup (ea_cons ev_c (ea_cons (ev_neg ev_c) ea_nil)) (by show 2 ≤ 100000; omega) H2 (Ex.refl _) _ fun p H3 hp e3 h3 => ?_
  refine rv_niT (st_of h3) rfl rfl H3 (Ex.refl _) _ fun H4 e4 => ?_
  have : inV (V.int s) [V.int 1, V.int (-1)] = decide (s = 1 ∨ s = -1) := by
    show ((1 : Int) == s || ((-1 : Int) == s || false)) = _
    rw [Bool.eq_iff_iff]
    simp
    omega
  rw [this]
  exact q H4 (e2.trans (e3.trans e4))
theorem pure_law_good {K : PySem.W.Frag} {d : Nat} {vs : List V} {H : Hp} {Q : VK} {E : XK} (h : sp_law_good K (d + 1) vs H Q E) : t_law_good K d { nx := fun _ H' => Q .non H', rt := Q } (start ["number", "before", "sign", "exponent", "value"] vs) H := by
  obtain ⟨x, R, rfl, ⟨t, hx, hsm, hh, hd, hl, rfl⟩, k⟩ := h
  obtain ⟨a, xs, rfl, hs, ht⟩ := hx.out
  have hit := items_terms ht
  refine q_asg ev_c fun H1 e1 => ?_
  refine q_forT (xs := xs) (ev_var rfl) (ex_t e1 hs) (WLgood (.ref a) t H) (fun H2 e2 => ⟨none, none, none, none, rfl, e1.trans e2, ?_⟩) (fun i σ' H' _ ⟨_, _, _, _, _, e, _⟩ => ex_t e hs) ?_ ?_
  · rw [List.drop_zero, ofL_toL]
  · rintro i x σ' H' hi ⟨b, z3, z4, z5, rfl, e2, hw⟩
    obtain ⟨⟨s, e⟩, hget, p, w, rfl, hp, hwv⟩ := (hit.ex (fun a => (termI a).mono) e2).of_at hi
    have hmem : (s, e) ∈ t.toL := List.mem_of_getElem? hget
    obtain ⟨⟨hsg, hel⟩, hen⟩ := sm_toL hsm _ hmem
    have hhe : e.height < t.height := T.height_mem hmem
    rw [drop_atT hget, ofL, T.lgood] at hw
    refine g_pair hp ?_
    refine q_when (b := !decide (s = 1 ∨ s = -1) || !(e.lgood none)) (et_or (et_B (ev_signIn rfl)) fun _ => et_not (et_B (ev_er (er_call1 (R1 := fun v H => NumV K H v e) (er_var rfl fun H1 e1 => hwv.ex e1) numT.mono fun v H1 e1 h1 => ⟨e, h1, hen, by omega, by omega, hel, rfl⟩)))) (fun hc H3 e3 => ?_) (fun hc H3 e3 => ?_)
    · rw [if_pos (by simpa using hc)] at hw
      exact s_ret ev_c fun H5 e5 => k _ _ (e2.trans (e3.trans e5)) (by rw [hw])
    rw [if_neg (by simpa using hc)] at hw
    refine q_asgR (R := fun v _ => v = optV e.lval) (er_call1 (R1 := fun v H => NumV K H v e) (er_var rfl fun H1 e1 => (hwv.ex e3).ex e1) numT.mono fun v H1 e1 h1 => ⟨e, h1, hen, by omega, hel, rfl⟩) fun v H4 e4 hv => ?_
    subst hv
    have e24 := e2.trans (e3.trans e4)
    cases hq : e.lval with
    | none =>
      rw [hq] at hw
      refine q_when (b := true) (et_or (a := true) (b := false) (et_test (ev_is (ev_isN (ev_var rfl)) rfl)) (fun h => by cases h)) (fun _ H5 e5 => ?_) (fun h => by cases h)
      exact s_ret ev_c fun H6 e6 => k _ _ (e24.trans (e5.trans e6)) (by rw [hw])
    | some q =>
      rw [hq] at hw
      simp only at hw
      have tst : ∀ σ, σ = [some (.ref a), some (optV b), some (.int s), some w, some (.int q)] → EvT (tOr (tTest (tOp xIsN (tVar 4) (tC .non))) (tOr (tTest (tOp xLt (tVar 4) (tC (.int 0)))) (tAnd (tTest (tOp xNotN (tVar 1) (tC .non))) (tTest (tOp xLt (tOp xSub (tVar 1) (tVar 4)) (tC (.int 2))))))) σ H4 (decide (q < 0 ∨ ∃ b0, b = some b0 ∧ b0 - q < 2)) := by
        rintro σ rfl
        cases b with
        | none =>
          refine et_is (et_or (a := false) (b := decide (q < 0)) (et_test (ev_is (ev_isN (ev_var rfl)) rfl)) fun _ => et_is (et_or (a := decide (q < 0)) (b := false) (et_test (ev_lt (ev_var rfl) ev_c)) fun _ => et_and (a := false) (b := true) (et_test (ev_is (ev_notN (ev_var rfl)) rfl)) (fun h => by cases h)) (Bool.or_false _)) ?_
          rw [Bool.false_or]
          exact decide_eq_decide.mpr ⟨fun h => .inl h, fun h => by rcases h with h | ⟨b0, h, _⟩; exact h; cases h⟩
        | some b0 =>
          refine et_is (et_or (a := false) (et_test (ev_is (ev_isN (ev_var rfl)) rfl)) fun _ => et_or (a := decide (q < 0)) (et_test (ev_lt (ev_var rfl) ev_c)) fun _ => et_and (a := true) (et_test (ev_is (ev_notN (ev_var rfl)) rfl)) fun _ => et_test (ev_lt (ev_sub (ev_var rfl) (ev_var rfl)) ev_c)) ?_
          rw [Bool.false_or, Bool.true_and, ← Bool.decide_or]
          exact decide_eq_decide.mpr ⟨fun h => by rcases h with h | h; exact .inl h; exact .inr ⟨b0, rfl, h⟩, fun h => by rcases h with h | ⟨b1, h, g⟩; exact .inl h; injection h with h; subst h; exact .inr g⟩
      refine q_when (tst _ rfl) (fun hc H5 e5 => ?_) (fun hc H5 e5 => ?_)
      · rw [if_pos (of_decide_eq_true hc)] at hw
        exact s_ret ev_c fun H6 e6 => k _ _ (e24.trans (e5.trans e6)) (by rw [hw])
      · rw [if_neg (of_decide_eq_false hc)] at hw
        exact s_asg (ev_var rfl) fun H6 e6 => ⟨some q, _, _, _, rfl, e24.trans (e5.trans e6), hw⟩
  · rintro σ' H' ⟨b, z3, z4, z5, rfl, e2, hw⟩
    have : t.toL.drop xs.length = [] := List.drop_eq_nil_of_le (by rw [hit.1]; exact Nat.le_refl _)
    rw [this] at hw
    exact s_ret ev_c fun H5 e5 => k _ _ (e2.trans e5) (by rw [hw]; show V.bl true = V.bl (T.nil.lgood b); rw [T.lgood])
/-! ### towers -/
def towT : Nat → T
  | 0 => .nil
  | n + 1 => .cons 1 (towT n) .nil
def pLawTower (K : PySem.W.Frag) : V → Hp → VP → Prop := fun x H R => ∃ n : Nat, x = .int (n : Int) ∧ n ≤ 1000 ∧ R = fun v H' => NumV K H' v (towT n)
def sp_law_tower (K : PySem.W.Frag) : Sp := spF1 (pLawTower K)
def t_law_tower (K : PySem.W.Frag) : TS := (tSeq (tAsg (tTup tNil) (gName 1))
    (tSeq (tFor (iRng1 (tCons (tVar 0) tNil)) (gName 2) (tAsg (tTup (tCons (tTup (tCons (tC (.int 1)) (tCons (tVar 1) tNil))) tNil)) (gName 1)))
    (tRet (tVar 1))))
theorem pure_law_tower {K : PySem.W.Frag} {vs : List V} {H : Hp} {Q : VK} {E : XK} (h : sp_law_tower K vs H Q E) : t_law_tower K { nx := fun _ H' => Q .non H', rt := Q } (start ["height", "number", "k"] vs) H := by
  obtain ⟨x, R, rfl, ⟨n, rfl, hn, rfl⟩, k⟩ := h
  refine q_asgU (eu_tup ea_nil (by show 0 ≤ 100000; omega)) fun p H1 hp e1 h1 => ?_
  refine q_forR1 (ea_cons (ev_var rfl) ea_nil) ⟨by omega, by omega⟩ (fun i σ H' => ∃ (v : V) (z : Option V), σ = [some (.int (n : Int)), some v, z] ∧ Ex H H' ∧ NumV K H' v (towT i)) (fun H2 e2 => ⟨.ref p, none, rfl, e1.trans e2, (NumV.mk (st_of h1) TermsV.nil).ex e2⟩) ?_ ?_
  · rintro i σ H' hi ⟨v, z, rfl, e2, h2⟩
    refine s_asgR (R := fun u H3 => NumV K H3 u (towT (i + 1))) ((er_tup (ea_one (R := fun v H3 => ∃ q w, v = .ref q ∧ SqT K H3 q [.int 1, w] ∧ NumV K H3 w (towT i)) ((er_tup (ea_two (R := fun v _ => v = .int 1) (R' := fun v H3 => NumV K H3 v (towT i)) (er_is ev_c) monoC (er_var rfl fun H3 e3 => h2.ex e3) numT.mono)
      (fun vs H2 H3 e ⟨v, w, h1, h2, h3⟩ => ⟨v, w, h1, h2, h3.ex e⟩) (fun vs H2 ⟨v, w, h1, _⟩ => by rw [h1]; show 2 ≤ 100000; omega)).imp fun v H3 e3 ⟨q, ws, hv, g1, u, w, g2, g3, g4⟩ => ⟨q, w, hv, st_of (by rw [g1, g2, g3]), g4⟩)
      (fun v Ha Hb e ⟨q, w, g1, g2, g3⟩ => ⟨q, w, g1, ex_t e g2, g3.ex e⟩)) (fun vs H2 H3 e ⟨v, h1, q, w, g1, g2, g3⟩ => ⟨v, h1, q, w, g1, ex_t e g2, g3.ex e⟩) (fun vs H2 ⟨v, h1, _⟩ => by rw [h1]; show 1 ≤ 100000; omega)).imp fun v H3 e3 ⟨p, vs, hv, g1, u, g2, q, w, g3, g4, g5⟩ => by
        rw [hv]
        exact NumV.mk (st_of (by rw [g1, g2, g3])) (TermsV.cons g4 g5 TermsV.nil)) fun u H3 e3 hu => ⟨u, _, rfl, e2.trans e3, hu⟩
  · rintro σ H' ⟨v, z, rfl, e2, h2⟩
    exact s_ret (ev_var rfl) fun H3 e3 => k _ _ (e2.trans e3) (by rw [Int.toNat_natCast] at h2; exact h2.ex e3)
theorem vac_law_good {K : PySem.W.Frag} {vs : List V} {H : Hp} {Q : VK} {E : XK} (h : sp_law_good K 0 vs H Q E) : False := by obtain ⟨x, R, _, ⟨t, _, _, h, _⟩, _⟩ := h; exact Nat.not_lt_zero _ h
end Sk

set_option Elab.async false
set_option linter.all false
set_option maxRecDepth 100000
set_option maxHeartbeats 2000000
namespace Sk
open PySem L2 Evl
def rInsert : V → List V → Hp → VK → Prop := fun x vs H Q => ∃ (l : Addr) (xs : List V) (i : Int) (y : V), x = V.ref l ∧ vs = [V.int i, y] ∧ H l = some (HO.lst xs) ∧ xs.length < PySem.sizeLine ∧ 0 ≤ i ∧ i < 2 ^ 63 ∧ Q V.non (upd H l (HO.lst (List.take i.toNat xs ++ [y] ++ List.drop i.toNat xs)))
def xListOf (K : PySem.W.Frag) : List V → Hp → VK → Prop := fun xs H Q => ∃ (p : Addr) (ys : List V), xs = [V.ref p] ∧ (SqL K H p ys ∨ SqT K H p ys) ∧ ∀ (l : Addr), H l = none → Q (V.ref l) (upd H l (HO.lst ys))
section
variable {K : PySem.W.Frag} {σ : L2.St} {H : Hp} {te tf ta : TE} {D : Ends}
theorem er_listT {x : V} {t : T} (h : Ev te σ H x) (hx : NumV K H x t) : ER (tCB (xListOf K) (tCons te tNil)) σ H (fun v H2 => ∃ p ys, v = .ref p ∧ H p = none ∧ H2 p = some (.lst ys) ∧ ItemsR (TermI K) t.toL ys H2) := fun H1 e Q q => by
  obtain ⟨a, xs, rfl, h1, h2⟩ := hx.out
  exact h H1 e _ fun H2 e2 => ⟨a, xs, rfl, .inr (ex_t (e.trans e2) h1), fun l hl => q _ _ (e2.trans (Ex.new hl)) ⟨l, xs, rfl, fresh_back e (fresh_back e2 hl), upd_same, items_terms (h2.ex ((e.trans e2).trans (Ex.new hl)))⟩⟩
/-- a term is written -/
theorem er_termP {P1 : Int → Prop} {P2 : T → Prop} (h1 : ER te σ H (IntR P1)) (h2 : ER tf σ H (fun v H2 => ∃ e, P2 e ∧ NumV K H2 v e)) : ER (tTup (tCons te (tCons tf tNil))) σ H (fun v H2 => ∃ x : Int × T, (P1 x.1 ∧ P2 x.2) ∧ TermI K x v H2) :=
  (er_tup (ea_two h1 intR h2 (fun v Ha Hb e ⟨t, g1, g2⟩ => ⟨t, g1, g2.ex e⟩)) (fun vs H2 H3 e ⟨v, w, g1, g2, t, g3, g4⟩ => ⟨v, w, g1, g2, t, g3, g4.ex e⟩) (fun vs H2 ⟨v, w, g1, _⟩ => by rw [g1]; show 2 ≤ 100000; omega)).imp
    fun v H3 e3 ⟨q, ws, hv, g1, u, w, g2, ⟨s, hs, g3⟩, t, g4, g5⟩ => ⟨(s, t), ⟨g3, g4⟩, q, w, hv, st_of (by rw [g1, g2, hs]), g5⟩
theorem er_num0 : ER (tTup tNil) σ H (fun v H2 => ∃ e, e = T.nil ∧ NumV K H2 v e) := fun H1 e Q q => eu_tup (vs := []) ea_nil (by show 0 ≤ 100000; omega) H1 e _ fun p H2 hp e2 h2 => q _ _ e2 ⟨.nil, rfl, NumV.mk (st_of h2) TermsV.nil⟩
theorem er_num1 {P : Int × T → Prop} (h : ER te σ H (fun v H2 => ∃ x, P x ∧ TermI K x v H2)) : ER (tTup (tCons te tNil)) σ H (fun v H2 => ∃ e, (∃ x, P x ∧ e = ofL [x]) ∧ NumV K H2 v e) :=
  (er_tup (ea_one h (fun v Ha Hb e ⟨x, g1, g2⟩ => ⟨x, g1, termIm _ _ _ e g2⟩)) (fun vs H2 H3 e ⟨v, g1, x, g2, g3⟩ => ⟨v, g1, x, g2, termIm _ _ _ e g3⟩) (fun vs H2 ⟨v, g1, _⟩ => by rw [g1]; show 1 ≤ 100000; omega)).imp
    fun v H3 e3 ⟨q, ws, hv, g1, u, g2, x, g3, g4⟩ => ⟨_, ⟨x, g3, rfl⟩, by rw [hv]; exact NumV.mk (st_of (by rw [g1, g2] <;> rfl)) (terms_items (l := [x]) (ItemsR.snoc (l := []) .nil g4))⟩
theorem er_num2 {P P' : Int × T → Prop} (h : ER te σ H (fun v H2 => ∃ x, P x ∧ TermI K x v H2)) (h' : ER tf σ H (fun v H2 => ∃ x, P' x ∧ TermI K x v H2)) : ER (tTup (tCons te (tCons tf tNil))) σ H (fun v H2 => ∃ e, (∃ x y, P x ∧ P' y ∧ e = ofL [x, y]) ∧ NumV K H2 v e) :=
  (er_tup (ea_two h (fun v Ha Hb e ⟨x, g1, g2⟩ => ⟨x, g1, termIm _ _ _ e g2⟩) h' (fun v Ha Hb e ⟨x, g1, g2⟩ => ⟨x, g1, termIm _ _ _ e g2⟩)) (fun vs H2 H3 e ⟨v, w, g1, ⟨x, g2, g3⟩, y, g4, g5⟩ => ⟨v, w, g1, ⟨x, g2, termIm _ _ _ e g3⟩, y, g4, termIm _ _ _ e g5⟩) (fun vs H2 ⟨v, w, g1, _⟩ => by rw [g1]; show 2 ≤ 100000; omega)).imp
    fun v H3 e3 ⟨q, ws, hv, g1, u, w, g2, ⟨x, g3, g4⟩, y, g5, g6⟩ => ⟨_, ⟨x, y, g3, g5, rfl⟩, by rw [hv]; exact NumV.mk (st_of (by rw [g1, g2] <;> rfl)) (terms_items (l := [x, y]) (ItemsR.snoc (l := [x]) (ItemsR.snoc (l := []) .nil g4) g6))⟩
end
/-- a term that may stand in a spoilt number -/
structure TermOk (x : Int × T) : Prop where
  sg : x.1.natAbs ≤ 3
  sm : x.2.sm
  ht : x.2.height ≤ 7
  sz : x.2.size ≤ 60
  le : x.2.can → x.2.val ≤ 400
structure Spo (l : List (Int × T)) : Prop where
  ok : ∀ x ∈ l, TermOk x
  sz : (l.map fun x => x.2.size).sum ≤ 250
theorem sum_set (l : List (Int × T)) (i : Nat) (a : Int × T) : ((l.set i a).map fun x => x.2.size).sum ≤ (l.map fun x => x.2.size).sum + a.2.size := by
  induction l generalizing i with
  | nil => exact Nat.zero_le _
  | cons x l ih =>
    cases i with
    | zero => rw [List.set_cons_zero, List.map_cons, List.map_cons, List.sum_cons, List.sum_cons]; omega
    | succ i =>
      rw [List.set_cons_succ, List.map_cons, List.map_cons, List.sum_cons, List.sum_cons]
      have := ih i
      omega
theorem sum_ins (l : List (Int × T)) (n : Nat) (a : Int × T) : ((l.take n ++ [a] ++ l.drop n).map fun x => x.2.size).sum = (l.map fun x => x.2.size).sum + a.2.size := by
  have h : (l.map fun x => x.2.size).sum = ((l.take n).map fun x => x.2.size).sum + ((l.drop n).map fun x => x.2.size).sum := by
    rw [← List.sum_append, ← List.map_append, List.take_append_drop]
  rw [h, List.map_append, List.map_append, List.sum_append, List.sum_append, List.map_cons, List.sum_cons]
  show _ + (a.2.size + 0) + _ = _
  omega
section
variable {l : List (Int × T)} {a : Int × T}
theorem Spo.set (h : ∀ x ∈ l, TermOk x) (hs : (l.map fun x => x.2.size).sum ≤ 190) (ha : TermOk a) (i : Nat) : Spo (l.set i a) := by
  refine ⟨fun x hx => ?_, ?_⟩
  · rcases List.mem_or_eq_of_mem_set hx with q | q
    · exact h x q
    · rw [q]; exact ha
  · have h1 := sum_set l i a
    have h2 := ha.sz
    omega
theorem Spo.ins (h : ∀ x ∈ l, TermOk x) (hs : (l.map fun x => x.2.size).sum ≤ 190) (ha : TermOk a) (n : Nat) : Spo (l.take n ++ [a] ++ l.drop n) := by
  refine ⟨fun x hx => ?_, ?_⟩
  · rcases List.mem_append.mp hx with q | q
    · rcases List.mem_append.mp q with q | q
      · exact h x (List.mem_of_mem_take q)
      · rw [List.mem_singleton.mp q]; exact ha
    · exact h x (List.mem_of_mem_drop q)
  · rw [sum_ins]
    have h2 := ha.sz
    omega
theorem Spo.rev (h : ∀ x ∈ l, TermOk x) (hs : (l.map fun x => x.2.size).sum ≤ 190) : Spo l.reverse := by
  refine ⟨fun x hx => h x (List.mem_reverse.mp hx), ?_⟩
  rw [List.map_reverse, List.sum_reverse]
  omega
end
/-! ### integers that may stand as exponents there -/
theorem sz32 : ∀ p : Nat, p < 32 → (toT (p : Int)).size ≤ 13 := by
  have h : ∀ p : Nat, p < 32 → costF 13 p 0 ≤ 12 := by decide +kernel
  intro p hp
  rw [sz_cost p (by omega)]
  have := h p hp
  omega
theorem sm_of_nn : ∀ {t : T}, t.nn → t.sm
  | .nil, _ => True.intro
  | .cons s e r, h => ⟨⟨by rcases h.1.1 with rfl | rfl <;> decide, h.1.2.2.1⟩, sm_of_nn h.2.1, sm_of_nn h.2.2⟩
theorem ok_int {s n : Int} (hs : s.natAbs ≤ 3) (hn : -40 ≤ n ∧ n ≤ 400) : TermOk (s, toT n) := by
  have h9 : n.natAbs ≤ 2 ^ 9 := by
    have : (2 : Nat) ^ 9 = 512 := by decide
    omega
  refine ⟨hs, sm_of_nn (toT_nn (E := 9) (by decide) h9), Nat.le_succ_of_le (height_toT 6 n (lt_Cb7 (k := 10) (by
    have : (2 : Nat) ^ 10 = 1024 := by decide
    omega) (by decide))), ?_, fun _ => by show (toT n).val ≤ 400; rw [toT_val]; omega⟩
  rcases Int.lt_or_le n 0 with q | q
  · have h6 : n.natAbs ≤ 2 ^ 6 := by
      have : (2 : Nat) ^ 6 = 64 := by decide
      omega
    have hp : ∀ x ∈ naf n 0, x.2 ≤ 6 := fun x hx => naf_le h6 hx
    have hl := gap_len (naf n 0) 0 6 (naf_gap _ _ (Nat.le_refl _) 0) fun x hx => ⟨Nat.zero_le _, hp x hx⟩
    show (toT n).size ≤ 60
    rw [size_toT]
    have := sum_all ((naf n 0).map (·.2)) (fun p : Nat => (toT (p : Int)).size) 9 fun p hp' => by
      obtain ⟨x, hx, rfl⟩ := List.mem_map.mp hp'
      have := hp x hx
      exact sz14 x.2 (by omega)
    rw [List.length_map] at this
    omega
  · obtain ⟨m, rfl⟩ := Int.eq_ofNat_of_zero_le q
    have := sz2810 m (by omega)
    show (toT (m : Int)).size ≤ 60
    omega
theorem ok_small {n : Nat} (hn : n < 2 ^ 20) : (∀ x ∈ (toT (n : Int)).toL, TermOk x) ∧ ((toT (n : Int)).toL.map fun x => x.2.size).sum ≤ 190 ∧ 0 ≤ (toT (n : Int)).toL.length ∧ (toT (n : Int)).toL.length ≤ 11 := by
  have hp : ∀ x ∈ naf (n : Int) 0, x.2 ≤ 20 := fun x hx => naf_le (by simpa using Nat.le_of_lt hn) hx
  have hl := gap_len (naf (n : Int) 0) 0 20 (naf_gap _ _ (Nat.le_refl _) 0) fun x hx => ⟨Nat.zero_le _, hp x hx⟩
  refine ⟨fun x hx => ?_, ?_, Nat.zero_le _, ?_⟩
  · rw [toL_toT] at hx
    obtain ⟨y, hy, rfl⟩ := List.mem_map.mp hx
    have hy := List.mem_reverse.mp hy
    have h1 := hp y hy
    exact ok_int (by rcases naf_sign hy with h | h <;> (show y.1.natAbs ≤ 3; rw [h]; decide)) (by omega)
  · rw [toL_toT, List.map_map]
    have := sum_all ((naf (n : Int) 0).reverse.map (·.2)) (fun p : Nat => (toT (p : Int)).size) 13 fun p hp' => by
      obtain ⟨x, hx, rfl⟩ := List.mem_map.mp hp'
      have := hp x (List.mem_reverse.mp hx)
      exact sz32 x.2 (by omega)
    rw [List.length_map, List.length_reverse, List.map_map] at this
    have e : ((fun x : Int × T => x.2.size) ∘ fun x : Int × Nat => (x.1, toT (x.2 : Int))) = ((fun p : Nat => (toT (p : Int)).size) ∘ fun x : Int × Nat => x.2) := rfl
    rw [e]
    omega
  · rw [toL_toT, List.length_map, List.length_reverse]
    omega
def pLawSpoilt (K : PySem.W.Frag) : V → V → Hp → VP → Prop := fun x y H R => ∃ n : Nat, Pool x H ∧ 0 < n ∧ n < 2 ^ 20 ∧ NumV K H y (toT (n : Int)) ∧ R = fun v H' => ∃ l, Spo l ∧ NumV K H' v (ofL l)
def sp_law_spoilt (K : PySem.W.Frag) : Sp := spF2 (pLawSpoilt K)
def t_law_spoilt (K : PySem.W.Frag) : TS := (tSeq (tAsg (tCB (xListOf K) (tCons (tVar 1) tNil)) (gName 2))
    (tSeq (tAsg (tCall (sp_law_pick K) [] E0 (tCons (tVar 0) (tCons (tC (.int 70)) (tCons (tCB (rLenS K) (tCons (tVar 2) tNil)) tNil)))) (gName 3))
    (tSeq (tAsg (tCall (sp_law_pick K) [] E0 (tCons (tVar 0) (tCons (tC (.int 71)) (tCons (tC (.int 7)) tNil)))) (gName 4))
    (tSeq (tIfS (tTest (tOp rEq (tVar 4) (tC (.int 0)))) (tAsg (tTup (tCons (tOp (rIxL K) (tLst (tCons (tC (.int 0)) (tCons (tC (.int 2)) (tCons (tUn xNeg (tC (.int 2))) (tCons (tC (.int 3)) tNil))))) (tCall (sp_law_pick K) [] E0 (tCons (tVar 0) (tCons (tC (.int 72)) (tCons (tC (.int 4)) tNil))))) (tCons (tOp (rIxT K) (tOp (rIxL K) (tVar 2) (tVar 3)) (tC (.int 1))) tNil))) (gSub (tVar 2) (tVar 3) rSetL)) (tIfS (tTest (tOp rEq (tVar 4) (tC (.int 1)))) (tAsg (tLc (iRng1 (tCons (tCB (rLenS K) (tCons (tVar 2) tNil)) tNil)) (gName 5) tYes (tOp (rIxL K) (tVar 2) (tOp xSub (tOp xSub (tCB (rLenS K) (tCons (tVar 2) tNil)) (tC (.int 1))) (tVar 5))) [5]) (gName 2)) (tIfS (tTest (tOp rEq (tVar 4) (tC (.int 2)))) (tDrop (tBM K "list" rInsert (tVar 2) (tCons (tVar 3) (tCons (tOp (rIxL K) (tVar 2) (tVar 3)) tNil)))) (tIfS (tTest (tOp rEq (tVar 4) (tC (.int 3)))) (tDrop (tBM K "list" rInsert (tVar 2) (tCons (tVar 3) (tCons (tTup (tCons (tC (.int 1)) (tCons (tCall (sp_law_of K 7) [] E0 (tCons (tOp xAdd (tC (.int 1)) (tCB xMax2 (tCons (tC (.int 0)) (tCons (tCB xMin2 (tCons (tC (.int 300)) (tCons (tCall (sp_law_low K) [] E0 (tCons (tOp (rIxT K) (tOp (rIxL K) (tVar 2) (tVar 3)) (tC (.int 1))) tNil)) tNil))) tNil)))) tNil)) tNil))) tNil)))) (tIfS (tTest (tOp rEq (tVar 4) (tC (.int 4)))) (tAsg (tTup (tCons (tOp (rIxT K) (tOp (rIxL K) (tVar 2) (tVar 3)) (tC (.int 0))) (tCons (tCall (sp_law_of K 7) [] E0 (tCons (tOp xSub (tUn xNeg (tC (.int 1))) (tCall (sp_law_pick K) [] E0 (tCons (tVar 0) (tCons (tC (.int 72)) (tCons (tC (.int 30)) tNil))))) tNil)) tNil))) (gSub (tVar 2) (tVar 3) rSetL)) (tIfS (tTest (tOp rEq (tVar 4) (tC (.int 5)))) (tAsg (tTup (tCons (tOp (rIxT K) (tOp (rIxL K) (tVar 2) (tVar 3)) (tC (.int 0))) (tCons (tTup (tCons (tTup (tCons (tC (.int 1)) (tCons (tTup tNil) tNil))) (tCons (tTup (tCons (tC (.int 1)) (tCons (tTup tNil) tNil))) tNil))) tNil))) (gSub (tVar 2) (tVar 3) rSetL)) (tAsg (tTup (tCons (tOp (rIxT K) (tOp (rIxL K) (tVar 2) (tVar 3)) (tC (.int 0))) (tCons (tTup (tCons (tTup (tCons (tC (.int 1)) (tCons (tTup (tCons (tTup (tCons (tC (.int 1)) (tCons (tTup tNil) tNil))) tNil)) tNil))) (tCons (tTup (tCons (tUn xNeg (tC (.int 1))) (tCons (tTup tNil) tNil))) tNil))) tNil))) (gSub (tVar 2) (tVar 3) rSetL))))))))
    (tRet (tThen (tVar 2) (kTup K)))))))
section
variable {K : PySem.W.Frag} {σ : L2.St} {H : Hp} {te tf ta tb : TE} {D : Ends}
/-- rows[at][1], rows[at][0] -/
theorem ev_rowE {p : Addr} {ys : List V} {i : Nat} {q : Addr} {s : Int} {w : V} (h : Ev ta σ H (.ref p)) (hi : Ev tb σ H (.int (i : Int))) (hp : H p = some (.lst ys)) (hy : ys[i]? = some (.ref q)) (hq : SqT K H q [.int s, w]) : Ev (tOp (rIxT K) (tOp (rIxL K) ta tb) (tC (.int 1))) σ H w := ev_atT (ev_at h hi (sq_of hp) (atI_nat hy)) ev_c hq rfl
theorem ev_rowS {p : Addr} {ys : List V} {i : Nat} {q : Addr} {s : Int} {w : V} (h : Ev ta σ H (.ref p)) (hi : Ev tb σ H (.int (i : Int))) (hp : H p = some (.lst ys)) (hy : ys[i]? = some (.ref q)) (hq : SqT K H q [.int s, w]) : Ev (tOp (rIxT K) (tOp (rIxL K) ta tb) (tC (.int 0))) σ H (.int s) := ev_atT (ev_at h hi (sq_of hp) (atI_nat hy)) ev_c hq rfl
theorem s_setR {R : VP} {l : Addr} {xs : List V} {j : Nat} (hl : H l = some (.lst xs)) (h : ER te σ H R) (ha : Ev ta σ H (.ref l)) (hb : Ev tb σ H (.int (j : Int))) (hj : j < xs.length) (m : Mono R) (k : ∀ v H1, Ex H H1 → R v H1 → D.nx σ (upd H1 l (.lst (xs.set j v)))) : tAsg te (gSub ta tb rSetL) D σ H :=
  h H (Ex.refl H) _ fun v H1 e1 r => ha H1 e1 _ fun H2 e2 => hb H2 (e1.trans e2) _ fun H3 e3 => ⟨l, xs, _, j, rfl, rfl, (e1.trans (e2.trans e3)) l _ hl, ixN_nat hj, k v H3 (e1.trans (e2.trans e3)) (m v _ _ (e2.trans e3) r)⟩
theorem s_insR {R : VP} {l : Addr} {xs : List V} {j : Nat} (hl : H l = some (.lst xs)) (hv : Ev ta σ H (.ref l)) (hb : Ev tb σ H (.int (j : Int))) (h : ER te σ H R) (hz : xs.length < 100000) (hj : j < xs.length) (k : ∀ v H1, Ex H H1 → R v H1 → D.nx σ (upd H1 l (.lst (xs.take j ++ [v] ++ xs.drop j)))) :
    tDrop (tBM K "list" rInsert ta (tCons tb (tCons te tNil))) D σ H := hv H (Ex.refl H) _ fun H1 e1 =>
  ⟨Or.inl ⟨rfl, xs, sq_of (e1 l _ hl)⟩, hb H1 e1 _ fun H2 e2 => h H2 (e1.trans e2) _ fun v H3 e3 r => ⟨l, xs, _, v, rfl, rfl, (e1.trans (e2.trans e3)) l _ hl, sz_lt hz, by omega, by omega, by rw [Int.toNat_natCast]; exact k v H3 (e1.trans (e2.trans e3)) r⟩⟩
end
theorem er_lawOf {K : PySem.W.Frag} {σ : L2.St} {H : Hp} {te : TE} {P : Int → Prop} (h : ER te σ H (IntR P)) (hP : ∀ i, P i → -40 ≤ i ∧ i ≤ 400) : ER (tCall (sp_law_of K 7) [] E0 (tCons te tNil)) σ H (fun v H2 => ∃ e, (∃ i, P i ∧ e = toT i) ∧ NumV K H2 v e) :=
  er_call (ea_one h intR) fun vs H1 e ⟨v, hv, i, hi, hp⟩ Q E q => ⟨v, _, hv, ⟨i, hi, lt_Cb7 (k := 10) (by
    have := hP i hp
    have : (2 : Nat) ^ 10 = 1024 := by decide
    omega) (by decide), by decide, by
    have h1 := hP i hp
    have h2 : (2 : Nat) ^ 10 ≤ 2 ^ 3090 := Nat.pow_le_pow_right (by decide) (by decide)
    have h3 : (2 : Nat) ^ 10 = 1024 := by decide
    refine Nat.le_trans ?_ h2
    omega, rfl⟩, fun w H2 e2 hw => q w H2 e2 ⟨_, ⟨i, hp, rfl⟩, hw⟩⟩
theorem ok_odd {s : Int} (hs : s.natAbs ≤ 3) : TermOk (s, ofL [((1 : Int), T.nil), ((1 : Int), T.nil)]) ∧ TermOk (s, ofL [((1 : Int), ofL [((1 : Int), T.nil)]), ((-1 : Int), T.nil)]) :=
  ⟨⟨hs, by simp [ofL, T.sm, T.toL], by show (ofL [((1 : Int), T.nil), ((1 : Int), T.nil)]).height ≤ 7; decide, by show (ofL [((1 : Int), T.nil), ((1 : Int), T.nil)]).size ≤ 60; decide, fun _ => by show (ofL [((1 : Int), T.nil), ((1 : Int), T.nil)]).val ≤ 400; decide⟩,
   ⟨hs, by simp [ofL, T.sm, T.toL], by show (ofL [((1 : Int), ofL [((1 : Int), T.nil)]), ((-1 : Int), T.nil)]).height ≤ 7; decide, by show (ofL [((1 : Int), ofL [((1 : Int), T.nil)]), ((-1 : Int), T.nil)]).size ≤ 60; decide, fun _ => by show (ofL [((1 : Int), ofL [((1 : Int), T.nil)]), ((-1 : Int), T.nil)]).val ≤ 400; decide⟩⟩
theorem pure_law_spoilt {K : PySem.W.Frag} {vs : List V} {H : Hp} {Q : VK} {E : XK} (h : sp_law_spoilt K vs H Q E) : t_law_spoilt K { nx := fun _ H' => Q .non H', rt := Q } (start ["numbers", "number", "rows", "at", "way", "k"] vs) H := by
  obtain ⟨x, y, R, rfl, ⟨n, hx, hn0, hn, hy, rfl⟩, k⟩ := h
  obtain ⟨ok, osz, _, olen⟩ := ok_small hn
  have hne : (toT (n : Int)).toL ≠ [] := fun q => by
    rw [toL_toT] at q
    have h1 := List.map_eq_nil_iff.mp q
    have h2 := List.reverse_eq_nil_iff.mp h1
    exact naf_ne (n := (n : Int)) (p := 0) (by omega) h2
  generalize hT : (toT (n : Int)).toL = l at *
  have hlp : 0 < l.length := List.length_pos_iff.mpr hne
  refine q_asgR (er_listT (ev_var rfl) hy) fun v H1 e1 ⟨r, ys, hv, hr, hr1, hit⟩ => ?_
  subst hv
  rw [hT] at hit
  have hyl : ys.length = l.length := hit.1
  refine q_asgR (er_pick (m := l.length) (er_var' rfl (pool _ _ _ e1 hx) pool) ev_c (ev_is (ev_len (ev_var rfl) (sq_of hr1)) (by rw [hyl])) hlp) fun v H2 e2 ⟨i, hi, hv⟩ => ?_
  subst hv
  refine q_asgR (er_pick (m := 7) (er_var' rfl (pool _ _ _ (e1.trans e2) hx) pool) ev_c ev_c (by decide)) fun v H3 e3 ⟨way, hway, hv⟩ => ?_
  subst hv
  have e13 := e1.trans (e2.trans e3)
  have hx3 := pool _ _ _ e13 hx
  have hr3 := (e2.trans e3) r _ hr1
  have hit3 := hit.tex termI (Ex.t (e2.trans e3))
  have fin : ∀ (H' : Hp) (σ : L2.St) (z5 : Option V) (r' : Addr) (zs : List V) (l' : List (Int × T)), σ = [some x, some y, some (.ref r'), some (.int (i : Int)), some (.int (way : Int)), z5] → Ex H H' → H' r' = some (.lst zs) → ItemsR (TermI K) l' zs H' → Spo l' →
      tRet (tThen (tVar 2) (kTup K)) { nx := fun _ H' => Q .non H', rt := Q } σ H' := by
    rintro H' σ z5 r' zs l' rfl e h1 h2 h3
    refine s_retR (er_tupleOf (R := fun ws H2 => ItemsR (TermI K) l' ws H2) (er_ev (ev_var rfl) fun H2 e2 => ⟨r', zs, rfl, sq_of (e2 r' _ h1), h2.tex termI (Ex.t e2)⟩) (fun ws H1 H2 e h => h.tex termI (Ex.t e))) fun v H4 e4 ⟨q, ws, hv, g1, g2⟩ => k v H4 (e.trans e4) ⟨l', h3, by rw [hv]; exact NumV.mk (st_of g1) (terms_items g2)⟩
  obtain ⟨⟨s, e⟩, hle⟩ : ∃ a, l[i]? = some a := ⟨_, List.getElem?_eq_getElem hi⟩
  obtain ⟨yv, hyv, q, w, rfl, hq, hw⟩ := hit3.at hle
  have hok := ok _ (List.mem_of_getElem? hle)
  have hsg : s.natAbs ≤ 3 := hok.sg
  have hiy : i < ys.length := by omega
  -- a term is put in its place
  have put : ∀ (te : TE) (σ : L2.St) (H4 : Hp) (DB DC : L2.St → Hp → Prop), σ = [some x, some y, some (.ref r), some (.int (i : Int)), some (.int (way : Int)), none] → Ex H3 H4 → ER te σ H4 (fun v H2 => ∃ a, TermOk a ∧ TermI K a v H2) →
      tAsg te (gSub (tVar 2) (tVar 3) rSetL) { nx := fun σ' H' => tRet (tThen (tVar 2) (kTup K)) { nx := fun _ H' => Q .non H', rt := Q } σ' H', rt := Q, bk := DB, ct := DC } σ H4 := by
    rintro te σ H4 DB DC rfl e4 hE
    refine s_setR (e4 r _ hr3) hE (ev_var rfl) (ev_var rfl) hiy (fun v Ha Hb e ⟨a, g1, g2⟩ => ⟨a, g1, termIm _ _ _ e g2⟩) fun v H5 e5 ⟨a, ha, hv⟩ => ?_
    have ht : TEx H5 (upd H5 r (.lst (ys.set i v))) := TEx.put ((e4.trans e5) r _ hr3)
    exact fin _ _ _ r _ (l.set i a) rfl (Ex.mut (e13.trans (e4.trans e5)) hr) upd_same (ItemsR.set (hit3.tex termI ((Ex.t (e4.trans e5)).trans ht)) (termI a v _ _ ht hv)) (Spo.set ok osz ha i)
  have ins : ∀ (te : TE) (σ : L2.St) (H4 : Hp) (DB DC : L2.St → Hp → Prop), σ = [some x, some y, some (.ref r), some (.int (i : Int)), some (.int (way : Int)), none] → Ex H3 H4 → ER te σ H4 (fun v H2 => ∃ a, TermOk a ∧ TermI K a v H2) →
      tDrop (tBM K "list" rInsert (tVar 2) (tCons (tVar 3) (tCons te tNil))) { nx := fun σ' H' => tRet (tThen (tVar 2) (kTup K)) { nx := fun _ H' => Q .non H', rt := Q } σ' H', rt := Q, bk := DB, ct := DC } σ H4 := by
    rintro te σ H4 DB DC rfl e4 hE
    refine s_insR (e4 r _ hr3) (ev_var rfl) (ev_var rfl) hE (by omega) hiy fun v H5 e5 ⟨a, ha, hv⟩ => ?_
    have ht : TEx H5 (upd H5 r (.lst (ys.take i ++ [v] ++ ys.drop i))) := TEx.put ((e4.trans e5) r _ hr3)
    exact fin _ _ _ r _ (l.take i ++ [a] ++ l.drop i) rfl (Ex.mut (e13.trans (e4.trans e5)) hr) upd_same (ItemsR.ins i (hit3.tex termI ((Ex.t (e4.trans e5)).trans ht)) (termI a v _ _ ht hv)) (Spo.ins ok osz ha i)
  have rowS : ∀ {σ : L2.St} {H4 : Hp}, σ[2]? = some (some (.ref r)) → σ[3]? = some (some (.int (i : Int))) → Ex H3 H4 → ER (tOp (rIxT K) (tOp (rIxL K) (tVar 2) (tVar 3)) (tC (.int 0))) σ H4 (IntR fun z => z = s) := fun h2 h3 e4 => er_I (ev_rowS (ev_var h2) (ev_var h3) (e4 r _ hr3) hyv (ex_t e4 hq)) rfl
  have rowE : ∀ {σ : L2.St} {H4 : Hp}, σ[2]? = some (some (.ref r)) → σ[3]? = some (some (.int (i : Int))) → Ex H3 H4 → Ev (tOp (rIxT K) (tOp (rIxL K) (tVar 2) (tVar 3)) (tC (.int 1))) σ H4 w := fun h2 h3 e4 => ev_rowE (ev_var h2) (ev_var h3) (e4 r _ hr3) hyv (ex_t e4 hq)
  have one : ∀ {σ : L2.St} {H4 : Hp}, ER (tTup (tCons (tC (.int 1)) (tCons (tTup tNil) tNil))) σ H4 (fun v H2 => ∃ a : Int × T, a = (1, T.nil) ∧ TermI K a v H2) := fun {σ H4} => (er_termP (P1 := fun i => i = 1) (P2 := fun e => e = T.nil) (er_c rfl) er_num0).imp fun v H2 e2 ⟨a, ⟨h1, h2⟩, h3⟩ => ⟨a, by rw [← h1, ← h2], h3⟩
  refine q_if (et_test (ev_eq (ev_var rfl) ev_c rfl)) (fun _ H4 e4 => ?_) (fun _ H4 e4 => ?_)
  · -- another sign
    refine put _ _ H4 _ _ rfl e4 ((er_termP (P1 := fun i => i ∈ [0, 2, -2, 3]) (P2 := fun u => u = e) (er_menu (ms := [0, 2, -2, 3]) (el_lst (ea_cons ev_c (ea_cons ev_c (ea_cons (ev_neg ev_c) (ea_cons ev_c ea_nil)))) (by decide)) (er_pick (m := 4) (er_var' rfl (pool _ _ _ e4 hx3) pool) ev_c ev_c (by decide)) (by decide)) (er_ev (rowE rfl rfl e4) fun H5 e5 => ⟨e, rfl, (hw.ex e4).ex e5⟩)).imp fun v H5 e5 ⟨a, ⟨h1, h2⟩, h3⟩ => ⟨a, ⟨by simp at h1; omega, by rw [h2]; exact hok.sm, by rw [h2]; exact hok.ht, by rw [h2]; exact hok.sz, by rw [h2]; exact hok.le⟩, h3⟩)
  refine s_if (et_test (ev_eq (ev_var rfl) ev_c rfl)) (fun _ H5 e5 => ?_) (fun _ H5 e5 => ?_)
  · -- the other way round
    refine s_asgL (el_revIx (ys := ys) (p := r) rfl (sq_of ((e4.trans e5) r _ hr3)) (by omega) (by show 5 < 6; omega) (by decide)) fun r' H6 hr' e6 h6 => ?_
    exact fin _ _ _ r' _ l.reverse rfl (e13.trans (e4.trans (e5.trans e6))) h6 (hit3.tex termI (Ex.t (e4.trans (e5.trans e6)))).rev (Spo.rev ok osz)
  refine s_if (et_test (ev_eq (ev_var rfl) ev_c rfl)) (fun _ H6 e6 => ?_) (fun _ H6 e6 => ?_)
  · refine ins _ _ H6 _ _ rfl (e4.trans (e5.trans e6)) (er_ev (ev_at (ev_var rfl) (ev_var rfl) (sq_of ((e4.trans (e5.trans e6)) r _ hr3)) (atI_nat hyv)) fun H7 e7 => ⟨(s, e), hok, q, w, rfl, ex_t ((e4.trans (e5.trans e6)).trans e7) hq, hw.ex ((e4.trans (e5.trans e6)).trans e7)⟩)
  refine s_if (et_test (ev_eq (ev_var rfl) ev_c rfl)) (fun _ H7 e7 => ?_) (fun _ H7 e7 => ?_)
  · have e47 := e4.trans (e5.trans (e6.trans e7))
    have hlow : ER (tCB xMax2 (tCons (tC (.int 0)) (tCons (tCB xMin2 (tCons (tC (.int 300)) (tCons (tCall (sp_law_low K) [] E0 (tCons (tOp (rIxT K) (tOp (rIxL K) (tVar 2) (tVar 3)) (tC (.int 1))) tNil)) tNil))) tNil))) [some x, some y, some (.ref r), some (.int (i : Int)), some (.int (way : Int)), none] H7 (IntR fun z => 0 ≤ z ∧ z ≤ 300) := by
      have h1 : Ev (tCall (sp_law_low K) [] E0 (tCons (tOp (rIxT K) (tOp (rIxL K) (tVar 2) (tVar 3)) (tC (.int 1))) tNil)) [some x, some y, some (.ref r), some (.int (i : Int)), some (.int (way : Int)), none] H7 (.int (e.lval.getD 0)) :=
        ev_er (er_call1 (R1 := fun v H => NumV K H v e) (er_ev (rowE rfl rfl e47) fun H8 e8 => (hw.ex e47).ex e8) numT.mono fun v H8 e8 h8 => ⟨e, h8, hok.sm, by have := hok.ht; show e.height < 45; have h9 : e.height ≤ 7 := this; omega, by have h9 : e.size ≤ 60 := hok.sz; have := len_size e; omega, rfl⟩)
      refine er_I (ev_max ev_c (ev_min ev_c h1)) ?_
      generalize e.lval.getD 0 = z
      split <;> split <;> omega
    exact ins _ _ H7 _ _ rfl e47 ((er_termP (P1 := fun i => i = 1) (P2 := fun u => ∃ i, (1 ≤ i ∧ i ≤ 301) ∧ u = toT i) (er_c rfl) (er_lawOf (P := fun i => 1 ≤ i ∧ i ≤ 301) (er_add (P := fun i => i = 1) (er_c rfl) hlow fun i j hi hj => by omega) fun i hi => by omega)).imp fun v H8 e8 ⟨a, ⟨h1, j, hj, h2⟩, h3⟩ => ⟨a, by
      obtain ⟨a1, a2⟩ := a
      cases h1; cases h2
      exact ok_int (by decide) (by omega), h3⟩)
  refine s_if (et_test (ev_eq (ev_var rfl) ev_c rfl)) (fun _ H8 e8 => ?_) (fun _ H8 e8 => ?_)
  · have e48 := e4.trans (e5.trans (e6.trans (e7.trans e8)))
    exact put _ _ H8 _ _ rfl e48 ((er_termP (P1 := fun z => z = s) (P2 := fun u => ∃ i, (-30 ≤ i ∧ i ≤ -1) ∧ u = toT i) (rowS rfl rfl e48) (er_lawOf (P := fun i => -30 ≤ i ∧ i ≤ -1) (er_sub (P := fun i => i = -1) (er_I (ev_neg ev_c) rfl) (er_pickI (m := 30) (er_var' rfl (pool _ _ _ e48 hx3) pool) ev_c ev_c (by decide)) fun i j hi hj => by omega) fun i hi => by omega)).imp fun v H9 e9 ⟨a, ⟨h1, j, hj, h2⟩, h3⟩ => ⟨a, by
      obtain ⟨a1, a2⟩ := a
      cases h1; cases h2
      exact ok_int hsg (by omega), h3⟩)
  refine s_if (et_test (ev_eq (ev_var rfl) ev_c rfl)) (fun _ H9 e9 => ?_) (fun _ H9 e9 => ?_)
  · have e49 := e4.trans (e5.trans (e6.trans (e7.trans (e8.trans e9))))
    exact put _ _ H9 _ _ rfl e49 ((er_termP (P1 := fun z => z = s) (rowS rfl rfl e49) (er_num2 one one)).imp fun v H10 e10 ⟨a, ⟨h1, x, y, hx, hy, h2⟩, h3⟩ => ⟨a, by
      obtain ⟨a1, a2⟩ := a
      cases h1; cases hx; cases hy; cases h2
      exact (ok_odd hsg).1, h3⟩)
  · have e49 := e4.trans (e5.trans (e6.trans (e7.trans (e8.trans e9))))
    have two : ER (tTup (tCons (tC (.int 1)) (tCons (tTup (tCons (tTup (tCons (tC (.int 1)) (tCons (tTup tNil) tNil))) tNil)) tNil))) [some x, some y, some (.ref r), some (.int (i : Int)), some (.int (way : Int)), none] H9 (fun v H2 => ∃ a : Int × T, a = (1, ofL [((1 : Int), T.nil)]) ∧ TermI K a v H2) :=
      (er_termP (P1 := fun i => i = 1) (er_c rfl) (er_num1 one)).imp fun v H10 e10 ⟨a, ⟨h1, x, hx, h2⟩, h3⟩ => ⟨a, by
        obtain ⟨a1, a2⟩ := a
        cases h1; cases hx; cases h2; rfl, h3⟩
    have neg : ER (tTup (tCons (tUn xNeg (tC (.int 1))) (tCons (tTup tNil) tNil))) [some x, some y, some (.ref r), some (.int (i : Int)), some (.int (way : Int)), none] H9 (fun v H2 => ∃ a : Int × T, a = (-1, T.nil) ∧ TermI K a v H2) :=
      (er_termP (P1 := fun i => i = -1) (P2 := fun e => e = T.nil) (er_I (ev_neg ev_c) rfl) er_num0).imp fun v H2 e2 ⟨a, ⟨h1, h2⟩, h3⟩ => ⟨a, by rw [← h1, ← h2], h3⟩
    exact put _ _ H9 _ _ rfl e49 ((er_termP (P1 := fun z => z = s) (rowS rfl rfl e49) (er_num2 two neg)).imp fun v H10 e10 ⟨a, ⟨h1, x, y, hx, hy, h2⟩, h3⟩ => ⟨a, by
      obtain ⟨a1, a2⟩ := a
      cases h1; cases hx; cases hy; cases h2
      exact (ok_odd hsg).2, h3⟩)
end Sk

set_option Elab.async false
set_option linter.all false
set_option maxRecDepth 100000
set_option maxHeartbeats 1000000
namespace Sk
open PySem L2 Evl
/-! ### plus -/
theorem within_bound : ∀ {t : T} {b : Nat} {q : Int}, t.can → t.within b = some q → q.natAbs ≤ 2 ^ (b + 1)
  | .nil, b, q, _, h => by
    rw [T.within] at h
    cases h
    exact Nat.zero_le _
  | .cons s e r, b, q, hc, h => by
    have hv := within_val _ _ _ h
    rw [T.within] at h
    cases hp : e.within (bl b) with
    | none => rw [hp] at h; cases h
    | some p =>
      rw [hp] at h
      have hpe := within_val _ _ _ hp
      by_cases hpb : p > (b : Int)
      · simp only [if_pos hpb] at h; cases h
      · have h1 := (can_bounds hc).1
        have hl : (T.cons s e r).lead = e.val := rfl
        rw [hl] at h1
        have he : e.val ≤ (b : Int) := by omega
        have h2 : (2 : Int) ^ (e.val + 2).toNat ≤ 2 ^ (b + 2) := pow_leI (by omega)
        have h3 : (2 : Int) ^ (b + 2) = 2 * 2 ^ (b + 1) := by rw [Int.pow_succ 2 (b + 1)]; omega
        have h4 : ((2 ^ (b + 1) : Nat) : Int) = (2 : Int) ^ (b + 1) := by push_cast; rfl
        have h5 : (0 : Int) ≤ 2 ^ (b + 1) := Int.le_of_lt (Int.pow_pos (by decide))
        omega
/-- two rows on the way into one, the least first -/
structure Mrg (A B : List (Int × T)) (i j : Nat) (rw : List (Int × T)) : Prop where
  mem : ∀ x ∈ rw, x ∈ A ∨ x ∈ B
  asc : rw.Pairwise (fun a b => a.2.val ≤ b.2.val)
  le : ∀ x ∈ rw, ∀ y, y ∈ A.take i ∨ y ∈ B.take j → x.2.val ≤ y.2.val
  sum : sumT rw + sumT (A.take i) + sumT (B.take j) = sumT A + sumT B
  len : rw.length + i + j = A.length + B.length
theorem Mrg.start (A B : List (Int × T)) : Mrg A B A.length B.length [] := ⟨fun x hx => absurd hx List.not_mem_nil, List.Pairwise.nil, fun x hx => absurd hx List.not_mem_nil, by rw [List.take_length, List.take_length, sumT_nil]; omega, by rw [List.length_nil]; omega⟩
theorem Mrg.swap {A B rw} {i j : Nat} (h : Mrg A B i j rw) : Mrg B A j i rw := ⟨fun x hx => (h.mem x hx).symm, h.asc, fun x hx y hy => h.le x hx y hy.symm, by have := h.sum; omega, by have := h.len; omega⟩
theorem Mrg.left {A B rw} {i j : Nat} {x : Int × T} (h : Mrg A B (i + 1) j rw) (hd : A.Pairwise (fun a b => b.2.val + 2 ≤ a.2.val)) (hx : A[i]? = some x) (hB : ∀ y ∈ B.take j, x.2.val ≤ y.2.val) : Mrg A B i j (rw ++ [x]) := by
  have ht := take_snoc hx
  have hxm : x ∈ A.take (i + 1) := by rw [ht]; simp
  have hp : (A.take i ++ [x]).Pairwise (fun a b => b.2.val + 2 ≤ a.2.val) := by rw [← ht]; exact hd.sublist (List.take_sublist _ _)
  refine ⟨fun y hy => ?_, ?_, fun z hz y hy => ?_, ?_, ?_⟩
  · rcases List.mem_append.mp hy with q | q
    · exact h.mem y q
    · rw [List.mem_singleton.mp q]; exact .inl (List.mem_of_getElem? hx)
  · rw [List.pairwise_append]
    exact ⟨h.asc, List.pairwise_singleton _ _, fun a ha b hb => by rw [List.mem_singleton.mp hb]; exact h.le a ha x (.inl hxm)⟩
  · rcases List.mem_append.mp hz with q | q
    · exact h.le z q y (hy.imp (fun k => by rw [ht]; exact List.mem_append_left _ k) id)
    · rw [List.mem_singleton.mp q]
      rcases hy with k | k
      · have := (List.pairwise_append.mp hp).2.2 y k x (List.mem_singleton.mpr rfl)
        omega
      · exact hB y k
  · have h1 := h.sum
    rw [ht, sumT_app] at h1
    rw [sumT_app]
    omega
  · have := h.len
    rw [List.length_append, List.length_singleton]
    omega
theorem cntT_ones : ∀ {l : List (Int × T)}, (∀ x ∈ l, x.1 = 1 ∨ x.1 = -1) → cntT l = l.length
  | [], _ => rfl
  | x :: l, h => by
    rw [cntT_cons, cntT_ones fun y hy => h y (List.mem_cons_of_mem _ hy), List.length_cons]
    have := h x (List.mem_cons_self ..)
    omega
theorem Mrg.done {A B rw} {i j : Nat} (h : Mrg A B i j rw) (hij : i = 0 ∨ j = 0) (hA : A.Pairwise (fun a b => b.2.val + 2 ≤ a.2.val)) (hB : B.Pairwise (fun a b => b.2.val + 2 ≤ a.2.val)) (hx : ∀ x, x ∈ A ∨ x ∈ B → (x.1 = 1 ∨ x.1 = -1) ∧ ExpOk x.2) (hl : A.length + B.length ≤ 1400) :
    RowOk (rw ++ (A.take i ++ B.take j).reverse) rw.length ∧ cntT (rw ++ (A.take i ++ B.take j).reverse) ≤ 50000 ∧ sumT (rw ++ (A.take i ++ B.take j).reverse) = sumT A + sumT B := by
  have hmem : ∀ x ∈ rw ++ (A.take i ++ B.take j).reverse, x ∈ A ∨ x ∈ B := fun x hx' => by
    rcases List.mem_append.mp hx' with q | q
    · exact h.mem x q
    · rcases List.mem_append.mp (List.mem_reverse.mp q) with k | k
      · exact .inl (List.mem_of_mem_take k)
      · exact .inr (List.mem_of_mem_take k)
  have hdesc : (A.take i ++ B.take j).Pairwise (fun a b => b.2.val + 2 ≤ a.2.val) := by
    rcases hij with q | q
    · rw [q, List.take_zero, List.nil_append]; exact hB.sublist (List.take_sublist _ _)
    · rw [q, List.take_zero, List.append_nil]; exact hA.sublist (List.take_sublist _ _)
  have hlen : (rw ++ (A.take i ++ B.take j).reverse).length ≤ 1400 := by
    have := h.len
    rw [List.length_append, List.length_reverse, List.length_append, List.length_take, List.length_take]
    omega
  refine ⟨⟨fun x hx' => (hx x (hmem x hx')).2, ?_, fun n x _ hn => (hx x (hmem x (List.mem_of_getElem? hn))).1, ?_, fun x hx' => ?_, by omega, by rw [List.length_append]; omega⟩, ?_, ?_⟩
  · rw [List.pairwise_append, List.pairwise_reverse]
    exact ⟨h.asc, hdesc.imp fun {a b} k => by omega, fun a ha b hb => h.le a ha b (List.mem_append.mp (List.mem_reverse.mp hb))⟩
  · rw [List.drop_left, List.pairwise_reverse]
    exact hdesc
  · have := (hx x (hmem x hx')).1; omega
  · rw [cntT_ones fun x hx' => (hx x (hmem x hx')).1]; omega
  · rw [sumT_app, sumT_rev, sumT_app]
    have := h.sum
    omega
/-- what plus takes -/
structure PlOk (t : T) : Prop where
  can : t.can
  ht : t.height ≤ 43
  sz : t.size < 80000
  ln : t.toL.length ≤ 700
  sub : ∀ x ∈ t.toL, x.2.toL.length ≤ 800
theorem PlOk.ex {t : T} (h : PlOk t) : ∀ x ∈ t.toL, (x.1 = 1 ∨ x.1 = -1) ∧ ExpOk x.2 := fun x hx => by
  have h1 := can_toL h.can x hx
  have h2 := mem_size hx
  have := h.ht
  have := h.sz
  exact ⟨h1.1, ⟨h1.2.2, h1.2.1, by omega, by omega, h.sub x hx⟩⟩
def pPlusB (K : PySem.W.Frag) : V → V → Hp → VP → Prop := fun x y H R => ∃ (t u : T), NumV K H x t ∧ NumV K H y u ∧ PlOk t ∧ PlOk u ∧ R = fun w H' => ∃ r, NumV K H' w r ∧ r.can ∧ r.val = t.val + u.val
def sp_plus (K : PySem.W.Frag) : Sp := spF2 (pPlusB K)
def t_plus (K : PySem.W.Frag) : TS := (tSeq (tAsg (tCall (sp_value_within K 45) [] E0 (tCons (tVar 1) (tCons (tC (.int 512)) tNil))) (gName 2))
    (tSeq (tIfS (tTest (tOp xNotN (tVar 2) (tC .non))) (tRet (tCall (sp_plus_small K) [] E0 (tCons (tVar 0) (tCons (tVar 2) tNil)))) tNext)
    (tSeq (tAsg (tCall (sp_value_within K 45) [] E0 (tCons (tVar 0) (tCons (tC (.int 512)) tNil))) (gName 2))
    (tSeq (tIfS (tTest (tOp xNotN (tVar 2) (tC .non))) (tRet (tCall (sp_plus_small K) [] E0 (tCons (tVar 1) (tCons (tVar 2) tNil)))) tNext)
    (tSeq (tAsg (tLst tNil) (gName 3))
    (tSeq (tAsg (tCB (rLenS K) (tCons (tVar 0) tNil)) (gName 4))
    (tSeq (tAsg (tCB (rLenS K) (tCons (tVar 1) tNil)) (gName 5))
    (tSeq (tWhile (tAnd (tTest (tOp xGt (tVar 4) (tC (.int 0)))) (tTest (tOp xGt (tVar 5) (tC (.int 0))))) (tIfS (tTest (tOp xLt (tCall (sp_order K) [] E0 (tCons (tOp (rIxT K) (tOp (rIxT K) (tVar 0) (tOp xSub (tVar 4) (tC (.int 1)))) (tC (.int 1))) (tCons (tOp (rIxT K) (tOp (rIxT K) (tVar 1) (tOp xSub (tVar 5) (tC (.int 1)))) (tC (.int 1))) tNil))) (tC (.int 0)))) (tSeq (tAug 4 (tC (.int 1)) (ipI fun i j => i - j))
    (tDrop (tBM K "list" rAppend (tVar 3) (tCons (tOp (rIxT K) (tVar 0) (tVar 4)) tNil)))) (tSeq (tAug 5 (tC (.int 1)) (ipI fun i j => i - j))
    (tDrop (tBM K "list" rAppend (tVar 3) (tCons (tOp (rIxT K) (tVar 1) (tVar 5)) tNil))))))
    (tSeq (tAsg (tOp (rCatA K) (tSl (rSlA K) (tVar 0) tNoPart (tPart (tVar 4))) (tSl (rSlA K) (tVar 1) tNoPart (tPart (tVar 5)))) (gName 6))
    (tRet (tCall (sp_settled K) [] E0 (tCons (tOp rCat (tVar 3) (tCB (xListOf K) (tCons (tRevT K (tVar 6)) tNil))) (tCons (tCB (rLenS K) (tCons (tVar 3) tNil)) tNil)))))))))))))
section
variable {K : PySem.W.Frag} {σ : L2.St} {H : Hp} {te tf ta tl : TE} {R : List V → Hp → Prop}
theorem er_listOf (h : ER te σ H (fun v H2 => ∃ p ys, v = .ref p ∧ SqT K H2 p ys ∧ R ys H2)) (m : MonoL R) : ER (tCB (xListOf K) (tCons te tNil)) σ H (fun v H2 => ∃ p ys, v = .ref p ∧ H2 p = some (.lst ys) ∧ R ys H2) := fun H1 e Q q =>
  h H1 e _ fun v H2 e2 ⟨p, ys, hv, hs, hR⟩ => ⟨p, ys, by rw [hv], .inr hs, fun l hl => q _ _ (e2.trans (Ex.new hl)) ⟨l, ys, rfl, upd_same, m ys _ _ (Ex.new hl) hR⟩⟩
theorem er_catV {l : Addr} {xs : List V} (hv : Ev te σ H (.ref l)) (hl : H l = some (.lst xs)) (h' : ER tl σ H (fun v H2 => ∃ p zs, v = .ref p ∧ H2 p = some (.lst zs) ∧ R zs H2)) (m : MonoL R) (hz : ∀ zs H2, R zs H2 → xs.length + zs.length ≤ 100000) : ER (tOp rCat te tl) σ H (fun v H2 => ∃ p zs, v = .ref p ∧ H2 p = some (.lst (xs ++ zs)) ∧ R zs H2) := fun H1 e Q q =>
  hv H1 e _ fun H2 e2 => h' H2 (e.trans e2) _ fun v H3 e3 ⟨p, zs, hp, hp2, hR⟩ => ⟨l, p, xs, zs, rfl, hp, (e.trans (e2.trans e3)) l _ hl, hp2, sz_of (hz zs H3 hR), fun r hr => q _ _ ((e2.trans e3).trans (Ex.new hr)) ⟨r, zs, rfl, upd_same, m zs _ _ (Ex.new hr) hR⟩⟩
end
theorem cmp_neg (a b : Int) : decide (cmpI a b < 0) = decide (a < b) := by
  unfold cmpI
  split
  · rename_i h; rw [decide_eq_true h]; rfl
  · rename_i h
    rw [decide_eq_false h]
    split <;> rfl
def WPlus (K : PySem.W.Frag) (a b l : Addr) (t u : T) (H0 : Hp) (m : Nat) (σ : L2.St) (H : Hp) : Prop := ∃ (i j : Nat) (rw : List (Int × T)) (ys : List V), σ = [some (.ref a), some (.ref b), some .non, some (.ref l), some (.int (i : Int)), some (.int (j : Int)), none] ∧ Ex H0 H ∧ H l = some (.lst ys) ∧ ItemsR (TermI K) rw ys H ∧ i ≤ t.toL.length ∧ j ≤ u.toL.length ∧ m = i + j ∧ Mrg t.toL u.toL i j rw
theorem pure_plus {K : PySem.W.Frag} {vs : List V} {H : Hp} {Q : VK} {E : XK} (h : sp_plus K vs H Q E) : t_plus K { nx := fun _ H' => Q .non H', rt := Q } (start ["first", "second", "value", "row", "at", "other", "rest"] vs) H := by
  obtain ⟨x, y, R, rfl, ⟨t, u, hx, hy, ht, hu, rfl⟩, k⟩ := h
  obtain ⟨a, xs, rfl, ha, hxs⟩ := hx.out
  obtain ⟨b, ys, rfl, hb, hys⟩ := hy.out
  have lx := hxs.len
  have ly := hys.len
  have it1 := items_terms hxs
  have it2 := items_terms hys
  have hwi : ∀ {σ : L2.St} {H1 : Hp} {i : Nat} {v : V} {w : T}, σ[i]? = some (some v) → Ex H H1 → NumV K H v w → PlOk w → ER (tCall (sp_value_within K 45) [] E0 (tCons (tVar i) (tCons (tC (.int 512)) tNil))) σ H1 (fun v _ => v = optV (w.within 512)) := fun {σ H1 i v w} hi e1 hv hw =>
    er_call2 (R1 := fun v H => NumV K H v w) (R2 := fun v _ => v = .int ((512 : Nat) : Int)) (er_var hi fun H5 e5 => hv.ex (e1.trans e5)) numT.mono (er_is ev_c) monoC fun v w' H5 e5 k1 k2 => ⟨w, 512, k1, k2, nn_of_can hw.can (by have := hw.sz; omega), by have := hw.ht; omega, by omega, by have := hw.ln; omega, rfl⟩
  have small : ∀ {σ : L2.St} {H1 : Hp} {i : Nat} {v : V} {w w' : T} {q : Int}, σ[i]? = some (some v) → σ[2]? = some (some (.int q)) → Ex H H1 → NumV K H v w → PlOk w → PlOk w' → w'.within 512 = some q → w.val + w'.val = t.val + u.val → tRet (tCall (sp_plus_small K) [] E0 (tCons (tVar i) (tCons (tVar 2) tNil))) { nx := fun σ' H' => False, rt := Q } σ H1 := fun {σ H1 i v w w' q} hi h2 e1 hv hw hw' hq hs => by
    have hvq := within_val _ _ _ hq
    have hbq := within_bound hw'.can hq
    refine s_retR (er_call2 (R1 := fun v H => NumV K H v w) (R2 := fun v _ => v = .int q) (R := fun v H' => ∃ r, NumV K H' v r ∧ r.can ∧ r.val = w.val + q ∧ r.size ≤ w.size + 40 * (513 + 3 * w.toL.length + 3) ∧ r.height ≤ max w.height 6) (er_var hi fun H5 e5 => hv.ex (e1.trans e5)) numT.mono (er_is (ev_var h2)) monoC fun v v' H5 e5 k1 k2 => ⟨w, q, 513, k1, k2, hw.can, hw.ht, fun x hx => by have := mem_size hx; have := hw.sz; omega, by have := hw.ln; omega, hbq, rfl⟩) fun v H5 e5 ⟨r, g1, g2, g3, _⟩ => k _ _ (e1.trans e5) ⟨r, g1, g2, by rw [g3, hvq]; omega⟩
  refine q_asgR (hwi rfl (Ex.refl _) hy hu) fun v H1 e1 hv => ?_
  subst hv
  cases hq1 : u.within 512 with
  | some q =>
    refine q_when (b := true) (et_test (ev_is (ev_notN (ev_var rfl)) rfl)) (fun _ H2 e2 => ?_) (fun h => by cases h)
    exact small (i := 0) (w := t) (w' := u) (q := q) rfl rfl (e1.trans e2) hx ht hu hq1 rfl
  | none =>
  refine q_when (b := false) (et_test (ev_is (ev_notN (ev_var rfl)) rfl)) (fun h => by cases h) (fun _ H2 e2 => ?_)
  refine q_asgR (hwi rfl (e1.trans e2) hx ht) fun v H3 e3 hv => ?_
  subst hv
  cases hq2 : t.within 512 with
  | some q =>
    refine q_when (b := true) (et_test (ev_is (ev_notN (ev_var rfl)) rfl)) (fun _ H4 e4 => ?_) (fun h => by cases h)
    exact small (i := 1) (w := u) (w' := t) (q := q) rfl rfl (e1.trans (e2.trans (e3.trans e4))) hy hu ht hq2 (Int.add_comm _ _)
  | none =>
  refine q_when (b := false) (et_test (ev_is (ev_notN (ev_var rfl)) rfl)) (fun h => by cases h) (fun _ H4 e4 => ?_)
  have e14 := e1.trans (e2.trans (e3.trans e4))
  refine q_asgL (el_lst ea_nil (by decide)) fun l H5 hl e5 h5 => ?_
  have hl0 : H l = none := fresh_back e14 hl
  refine q_asg (ev_is (ev_lenT (ev_var rfl) (ex_t (e14.trans e5) ha)) (by rw [lx])) fun H6 e6 => ?_
  refine q_asg (ev_is (ev_lenT (ev_var rfl) (ex_t (e14.trans (e5.trans e6)) hb)) (by rw [ly])) fun H7 e7 => ?_
  refine q_while' (WPlus K a b l t u H) (t.toL.length + u.toL.length) ⟨t.toL.length, u.toL.length, [], [], rfl, e14.trans (e5.trans (e6.trans e7)), (e6.trans e7) l _ h5, .nil, Nat.le_refl _, Nat.le_refl _, rfl, Mrg.start _ _⟩ ?_
  rintro m σ' H' ⟨i, j, rw, rs, rfl, e8, h8, hit, hi, hj, rfl, hM⟩
  have hrl : rs.length ≤ 1400 := by rw [hit.1]; have := hM.len; have := ht.ln; have := hu.ln; omega
  refine ⟨decide ((0 : Int) < (i : Int)) && decide ((0 : Int) < (j : Int)), et_and (et_test (ev_gt (ev_var rfl) ev_c)) (fun _ => et_test (ev_gt (ev_var rfl) ev_c)), fun hb2 H9 e9 => ?_, fun hb2 H9 e9 => ?_⟩
  · rw [Bool.and_eq_true, decide_eq_true_eq, decide_eq_true_eq] at hb2
    obtain ⟨i, rfl⟩ : ∃ n, i = n + 1 := ⟨i - 1, by omega⟩
    obtain ⟨j, rfl⟩ : ∃ n, j = n + 1 := ⟨j - 1, by omega⟩
    obtain ⟨s1, hs1⟩ : ∃ z, t.toL[i]? = some z := ⟨_, List.getElem?_eq_getElem (by omega)⟩
    obtain ⟨s2, hs2⟩ : ∃ z, u.toL[j]? = some z := ⟨_, List.getElem?_eq_getElem (by omega)⟩
    obtain ⟨v1, hv1, p1, w1, rfl, hp1, hw1⟩ := it1.at hs1
    obtain ⟨v2, hv2, p2, w2, rfl, hp2, hw2⟩ := it2.at hs2
    have x1 := ht.ex s1 (List.mem_of_getElem? hs1)
    have x2 := hu.ex s2 (List.mem_of_getElem? hs2)
    have e09 := e8.trans e9
    refine s_if (b := decide (s1.2.val < s2.2.val)) (et_test (ev_is (ev_lt (ev_er (er_call2 (R1 := fun v H => NumV K H v s1.2) (R2 := fun v H => NumV K H v s2.2)
      (er_ev (ev_atT (ev_atT (ev_var rfl) (ev_is (ev_sub (ev_var rfl) ev_c) (by simp : V.int (((i + 1 : Nat) : Int) - 1) = V.int (i : Int))) (ex_t e09 ha) (atI_nat hv1)) ev_c (ex_t e09 hp1) (atI_nat (j := 1) rfl)) fun H10 e10 => hw1.ex (e09.trans e10)) numT.mono
      (er_ev (ev_atT (ev_atT (ev_var rfl) (ev_is (ev_sub (ev_var rfl) ev_c) (by simp : V.int (((j + 1 : Nat) : Int) - 1) = V.int (j : Int))) (ex_t e09 hb) (atI_nat hv2)) ev_c (ex_t e09 hp2) (atI_nat (j := 1) rfl)) fun H10 e10 => hw2.ex (e09.trans e10)) numT.mono
      fun v w H10 e10 k1 k2 => ⟨s1.2, s2.2, k1, k2, x1.2.can, x2.2.can, by have := x1.2.ht; omega, by have := x1.2.sz; omega, by have := x2.2.sz; omega, rfl⟩)) ev_c) (congrArg V.bl (cmp_neg _ _)))) (fun hc H10 e10 => ?_) (fun hc H10 e10 => ?_)
    · have hc' := of_decide_eq_true hc
      refine q_aug (a := ((i + 1 : Nat) : Int)) (b := 1) rfl ev_c fun H11 e11 => ?_
      have hsub : ((i + 1 : Nat) : Int) - 1 = (i : Int) := by omega
      have e911 := e9.trans (e10.trans e11)
      refine s_app (e911 l _ h8) (ev_var rfl) (ev_atT (ev_var rfl) (ev_is (ev_var rfl) (congrArg V.int hsub)) (ex_t (e8.trans e911) ha) (atI_nat hv1)) (by omega) fun H12 e12 => ⟨i + (j + 1), by omega, i, j + 1, rw ++ [s1], rs ++ [.ref p1], by rw [← hsub]; rfl, Ex.mut (e8.trans (e911.trans e12)) hl0, upd_same, ?_, by omega, hj, rfl, hM.left (can_gap ht.can) hs1 fun y hy => ?_⟩
      · refine ItemsR.snoc ((hit.ex (fun x => (termI x).mono) (e911.trans e12)).tex termI (TEx.put ((e911.trans e12) l _ h8))) ?_
        exact termI _ _ _ _ ((Ex.t (e8.trans (e911.trans e12))).trans (TEx.put ((e911.trans e12) l _ h8))) ⟨p1, w1, rfl, hp1, hw1⟩
      · have hp : (u.toL.take j ++ [s2]).Pairwise (fun a b => b.2.val + 2 ≤ a.2.val) := by rw [← take_snoc hs2]; exact (can_gap hu.can).sublist (List.take_sublist _ _)
        rw [take_snoc hs2] at hy
        rcases List.mem_append.mp hy with q | q
        · have := (List.pairwise_append.mp hp).2.2 y q s2 (List.mem_singleton.mpr rfl)
          omega
        · rw [List.mem_singleton.mp q]; omega
    · have hc' := of_decide_eq_false hc
      refine q_aug (a := ((j + 1 : Nat) : Int)) (b := 1) rfl ev_c fun H11 e11 => ?_
      have hsub : ((j + 1 : Nat) : Int) - 1 = (j : Int) := by omega
      have e911 := e9.trans (e10.trans e11)
      refine s_app (e911 l _ h8) (ev_var rfl) (ev_atT (ev_var rfl) (ev_is (ev_var rfl) (congrArg V.int hsub)) (ex_t (e8.trans e911) hb) (atI_nat hv2)) (by omega) fun H12 e12 => ⟨i + 1 + j, by omega, i + 1, j, rw ++ [s2], rs ++ [.ref p2], by rw [← hsub]; rfl, Ex.mut (e8.trans (e911.trans e12)) hl0, upd_same, ?_, hi, by omega, rfl, (hM.swap.left (can_gap hu.can) hs2 fun y hy => ?_).swap⟩
      · refine ItemsR.snoc ((hit.ex (fun x => (termI x).mono) (e911.trans e12)).tex termI (TEx.put ((e911.trans e12) l _ h8))) ?_
        exact termI _ _ _ _ ((Ex.t (e8.trans (e911.trans e12))).trans (TEx.put ((e911.trans e12) l _ h8))) ⟨p2, w2, rfl, hp2, hw2⟩
      · have hp : (t.toL.take i ++ [s1]).Pairwise (fun a b => b.2.val + 2 ≤ a.2.val) := by rw [← take_snoc hs1]; exact (can_gap ht.can).sublist (List.take_sublist _ _)
        rw [take_snoc hs1] at hy
        rcases List.mem_append.mp hy with q | q
        · have := (List.pairwise_append.mp hp).2.2 y q s1 (List.mem_singleton.mpr rfl)
          omega
        · rw [List.mem_singleton.mp q]; omega
  · have hij : i = 0 ∨ j = 0 := by
      rcases Nat.eq_zero_or_pos i with q | q
      · exact .inl q
      · rcases Nat.eq_zero_or_pos j with q' | q'
        · exact .inr q'
        · rw [decide_eq_true (by omega), decide_eq_true (by omega)] at hb2; cases hb2
    obtain ⟨d1, d2, d3⟩ := hM.done hij (can_gap ht.can) (can_gap hu.can) (fun x hx => hx.elim (ht.ex x) (hu.ex x)) (by have := ht.ln; have := hu.ln; omega)
    have e09 := e8.trans e9
    have l1 : (xs.take i).length ≤ 700 := by rw [List.length_take]; have := ht.ln; omega
    have l2 : (ys.take j).length ≤ 700 := by rw [List.length_take]; have := hu.ln; omega
    refine q_asgR (er_catT (P := fun zs _ => zs = xs.take i) (P' := fun zs _ => zs = ys.take j) ((er_upTo (n := i) (ev_var rfl) (ex_t e09 ha) (ev_var rfl)).imp fun v H10 e10 ⟨q, hv, hq⟩ => ⟨q, _, hv, hq, rfl⟩) (fun _ _ _ _ h => h) ((er_upTo (n := j) (ev_var rfl) (ex_t e09 hb) (ev_var rfl)).imp fun v H10 e10 ⟨q, hv, hq⟩ => ⟨q, _, hv, hq, rfl⟩) (fun _ _ _ _ h => h) (fun _ _ _ _ h h' => by rw [h, h']; omega)) fun v H10 e10 ⟨q, zs, zs', hv, hq, hz, hz'⟩ => ?_
    subst hv hz hz'
    have e90 := e9.trans e10
    have itall : ∀ H11, Ex H10 H11 → ItemsR (TermI K) (rw ++ (t.toL.take i ++ u.toL.take j).reverse) (rs ++ (xs.take i ++ ys.take j).reverse) H11 := fun H11 e11 =>
      ItemsR.append (hit.ex (fun x => (termI x).mono) (e90.trans e11)) (ItemsR.rev (ItemsR.append ((it1.ex (fun x => (termI x).mono) (e8.trans (e90.trans e11))).take i) ((it2.ex (fun x => (termI x).mono) (e8.trans (e90.trans e11))).take j)))
    refine s_retR (er_call2 (R1 := fun v H' => ∃ p, v = .ref p ∧ H' p = some (.lst (rs ++ (xs.take i ++ ys.take j).reverse)) ∧ ItemsR (TermI K) (rw ++ (t.toL.take i ++ u.toL.take j).reverse) (rs ++ (xs.take i ++ ys.take j).reverse) H') (R2 := fun v _ => v = .int (rw.length : Int)) (R := fun v H' => ∃ r, NumV K H' v r ∧ Settled (rw ++ (t.toL.take i ++ u.toL.take j).reverse) r)
      ((er_catV (R := fun zs _ => zs = (xs.take i ++ ys.take j).reverse) (ev_var rfl) (e90 l _ h8) (er_listOf ((er_revT (R := fun zs _ => zs = xs.take i ++ ys.take j) (er_ev (ev_var rfl) fun H11 e11 => ⟨q, _, rfl, ex_t e11 hq, rfl⟩) (fun _ _ _ _ h => h)).imp fun v H11 e11 ⟨p, zs, hv, hp, hz⟩ => ⟨p, _, hv, hp, by rw [hz]⟩) (fun _ _ _ _ h => h)) (fun _ _ _ _ h => h) (fun zs H2 h => by rw [h, List.length_reverse, List.length_append]; omega)).imp fun v H11 e11 ⟨p, zs, hv, hp, hz⟩ => ⟨p, hv, by rw [hp, hz], itall H11 e11⟩)
      (fun v H11 H12 e ⟨p, g1, g2, g3⟩ => ⟨p, g1, e p _ g2, g3.ex (fun x => (termI x).mono) e⟩) (er_is (ev_is (ev_lenL (ev_var rfl) (sq_of (e90 l _ h8))) (by rw [hit.1]))) monoC
      fun v w H11 e11 ⟨p, g1, g2, g3⟩ g4 => ⟨p, _, _, rw.length, g1, g2, g3, g4, d1, d2, rfl⟩) fun v H11 e11 ⟨r, g1, g2⟩ => k _ _ (e8.trans (e90.trans e11)) ⟨r, g1, g2.1, ?_⟩
    rw [g2.2.1, d3, ← sumT_ofL, ← sumT_ofL, ofL_toL, ofL_toL]
end Sk

set_option Elab.async false
set_option linter.all false
set_option maxRecDepth 100000
set_option maxHeartbeats 1000000
namespace Sk
open PySem L2 Evl
/-! ### negate -/
def negT (t : T) : T := ofL (t.toL.map fun x => (-x.1, x.2))
theorem sumT_neg : ∀ l : List (Int × T), sumT (l.map fun x => (-x.1, x.2)) = -sumT l
  | [] => rfl
  | x :: l => by
    rw [List.map_cons, sumT_cons, sumT_cons, sumT_neg l]
    show -x.1 * 2 ^ x.2.val.toNat + -sumT l = _
    rw [Int.neg_mul]
    omega
theorem negT_val (t : T) : (negT t).val = -t.val := by
  unfold negT
  rw [sumT_ofL, sumT_neg, ← sumT_ofL, ofL_toL]
theorem negT_can {t : T} (h : t.can) : (negT t).can := by
  unfold negT
  refine can_ofL (fun x hx => ?_) ?_
  · obtain ⟨y, hy, rfl⟩ := List.mem_map.mp hx
    obtain ⟨h1, h2, h3⟩ := can_toL h y hy
    exact ⟨by rcases h1 with q | q <;> simp [q], h2, h3⟩
  · rw [List.pairwise_map]
    exact can_gap h
theorem negT_size (t : T) : (negT t).size = t.size := by
  unfold negT
  rw [size_toL, size_toL, toL_ofL, List.map_map]
  rfl
theorem negT_len (t : T) : (negT t).toL.length = t.toL.length := by unfold negT; rw [toL_ofL, List.length_map]
theorem negT_mem {t : T} {x : Int × T} (h : x ∈ (negT t).toL) : ∃ y ∈ t.toL, x.2 = y.2 := by
  unfold negT at h
  rw [toL_ofL] at h
  obtain ⟨y, hy, rfl⟩ := List.mem_map.mp h
  exact ⟨y, hy, rfl⟩
theorem negT_ht (t : T) : (negT t).height ≤ t.height := height_le_of fun x hx => by
  obtain ⟨y, hy, e⟩ := negT_mem hx
  have := (mem_size hy).2
  rw [e]
  omega
theorem PlOk.neg {t : T} (h : PlOk t) : PlOk (negT t) := ⟨negT_can h.can, Nat.le_trans (negT_ht t) h.ht, by rw [negT_size]; exact h.sz, by rw [negT_len]; exact h.ln, fun x hx => by
  obtain ⟨y, hy, e⟩ := negT_mem hx
  rw [e]; exact h.sub y hy⟩
def pNegate (K : PySem.W.Frag) : V → Hp → VP → Prop := fun x H R => ∃ t : T, NumV K H x t ∧ t.toL.length < 90000 ∧ R = fun v H' => NumV K H' v (negT t)
def sp_negate (K : PySem.W.Frag) : Sp := spF1 (pNegate K)
def t_negate (K : PySem.W.Frag) : TS := (tRet (tThen (tLc (iTup K (tVar 0)) (gTup K 2 (gCons (gName 1) (gCons (gName 2) gNil))) tYes (tTup (tCons (tUn xNeg (tVar 1)) (tCons (tVar 2) tNil))) [1, 2]) (kTup K)))
theorem ItemsR.mapT {K : PySem.W.Frag} {f : Int × T → Int × T} : ∀ {l : List (Int × T)} {ys : List V} {H : Hp}, ItemsR (fun a => TermI K (f a)) l ys H → ItemsR (TermI K) (l.map f) ys H := fun h => ItemsR.mapI h
theorem pure_negate {K : PySem.W.Frag} {vs : List V} {H : Hp} {Q : VK} {E : XK} (h : sp_negate K vs H Q E) : t_negate K { nx := fun _ H' => Q .non H', rt := Q } (start ["number", "sign", "exponent"] vs) H := by
  obtain ⟨x, R, rfl, ⟨t, hx, hl, rfl⟩, k⟩ := h
  obtain ⟨a, xs, rfl, ha, hxs⟩ := hx.out
  refine s_retR (er_tupleOf (R := fun ys H' => ItemsR (fun x => TermI K (-x.1, x.2)) t.toL ys H') ((er_lcIT (R1 := TermI K) (R2 := fun x => TermI K (-x.1, x.2)) (l := t.toL) (er_ev (ev_var rfl) fun H2 e2 => ⟨a, xs, rfl, ex_t e2 ha, items_terms (hxs.ex e2)⟩) (fun a => (termI a).mono) (fun a => termI _) (by omega) ?_).imp fun v H2 e2 ⟨p, ys, hv, hp0, hp, hit⟩ => ⟨p, ys, hv, sq_of hp, hit⟩) (fun ys Ha Hb e h => h.ex (fun a => (termI _).mono) e)) fun v H2 e2 ⟨p, ys, hv, hp, hit⟩ => k _ _ e2 ?_
  · rintro i ⟨s, e⟩ z H2 hi ⟨q, w, rfl, hq, hw⟩ e2 Qk kk
    refine g_pair hq ⟨rfl, ?_⟩
    refine (er_tup (ea_two (R := fun v _ => v = .int (-s)) (R' := fun v H3 => NumV K H3 v e) (er_is (ev_neg (ev_var rfl))) monoC (er_var rfl fun H3 e3 => hw.ex e3) numT.mono) (fun vs Ha Hb e ⟨v, w, h1, h2, h3⟩ => ⟨v, w, h1, h2, h3.ex e⟩) (fun vs Ha ⟨v, w, h1, _⟩ => by rw [h1]; show 2 ≤ 100000; omega)) H2 (Ex.refl _) _ fun v H3 e3 ⟨p, vs, hv, hp, v', w', g1, g2, g3⟩ => kk v H3 e3 ⟨p, w', hv, st_of (by rw [hp, g1, g2]), g3⟩
  · rw [hv]
    exact NumV.mk (st_of hp) (terms_items (ItemsR.mapT (f := fun x => (-x.1, x.2)) hit))
/-! ### add, subtract -/
section
variable {K : PySem.W.Frag} {CL : Addr} {σ : L2.St} {H : Hp} {te tf ta : TE} {t u : T}
theorem er_plus (h : ER te σ H (fun v H => NumV K H v t)) (h' : ER tf σ H (fun v H => NumV K H v u)) (ht : PlOk t) (hu : PlOk u) : ER (tCall (sp_plus K) [] E0 (tCons te (tCons tf tNil))) σ H (fun v H' => NumV K H' v (toT (t.val + u.val))) :=
  (er_call2 (R := fun w H' => ∃ r, NumV K H' w r ∧ r.can ∧ r.val = t.val + u.val) h numT.mono h' numT.mono fun v w H1 e1 g1 g2 => ⟨t, u, g1, g2, ht, hu, rfl⟩).imp fun v H2 e2 ⟨r, k1, k2, k3⟩ => by
    rw [← k3, ← can_eq k2]; exact k1
theorem er_negate (h : ER te σ H (fun v H => NumV K H v t)) (hl : t.toL.length < 90000) : ER (tCall (sp_negate K) [] E0 (tCons te tNil)) σ H (fun v H' => NumV K H' v (negT t)) :=
  er_call1 h numT.mono fun v H1 e1 g1 => ⟨t, g1, hl, rfl⟩
def pAdd (K : PySem.W.Frag) (CL : Addr) : V → V → Hp → VP → WP → Prop := fun x y H R W => ∃ (t u : T), NumV K H x t ∧ NumV K H y u ∧ PlOk t ∧ PlOk u ∧ (toT (t.val + u.val)).szk ∧ ((toT (t.val + u.val)).fits → ∀ v H', NumV K H' v (toT (t.val + u.val)) → R v H') ∧ (¬ (toT (t.val + u.val)).fits → W CL)
def sp_add (K : PySem.W.Frag) (CL : Addr) : Sp := spX2 K (pAdd K CL)
def t_add (K : PySem.W.Frag) (a_TooLarge : Addr) (E : XK) : TS := (tRet (tCall (sp_allowed K a_TooLarge) [] E (tCons (tCall (sp_plus K) [] E0 (tCons (tVar 0) (tCons (tVar 1) tNil))) tNil)))
theorem pure_add {vs : List V} {Q : VK} {E : XK} (h : sp_add K CL vs H Q E) : t_add K CL E { nx := fun _ H' => Q .non H', rt := Q } (start ["first", "second"] vs) H := by
  obtain ⟨x, y, R, W, rfl, ⟨t, u, hx, hy, ht, hu, hsz, hR, hW⟩, k, kE⟩ := h
  exact x_call1 (R1 := fun v H => NumV K H v (toT (t.val + u.val))) (er_plus (er_var rfl fun H1 e1 => hx.ex e1) (er_var rfl fun H1 e1 => hy.ex e1) ht hu) numT.mono _ fun v H1 e1 g => ⟨R, W, ⟨_, g, hsz, hR, hW⟩, fun w H2 e2 hw => k w H2 (e1.trans e2) hw, fun C H2 e2 hC => kE C H2 (e1.trans e2) hC⟩
def pSub (K : PySem.W.Frag) (CL : Addr) : V → V → Hp → VP → WP → Prop := fun x y H R W => ∃ (t u : T), NumV K H x t ∧ NumV K H y u ∧ PlOk t ∧ PlOk u ∧ (toT (t.val - u.val)).szk ∧ ((toT (t.val - u.val)).fits → ∀ v H', NumV K H' v (toT (t.val - u.val)) → R v H') ∧ (¬ (toT (t.val - u.val)).fits → W CL)
def sp_subtract (K : PySem.W.Frag) (CL : Addr) : Sp := spX2 K (pSub K CL)
def t_subtract (K : PySem.W.Frag) (a_TooLarge : Addr) (E : XK) : TS := (tRet (tCall (sp_add K a_TooLarge) [] E (tCons (tVar 0) (tCons (tCall (sp_negate K) [] E0 (tCons (tVar 1) tNil)) tNil))))
theorem pure_subtract {vs : List V} {Q : VK} {E : XK} (h : sp_subtract K CL vs H Q E) : t_subtract K CL E { nx := fun _ H' => Q .non H', rt := Q } (start ["first", "second"] vs) H := by
  obtain ⟨x, y, R, W, rfl, ⟨t, u, hx, hy, ht, hu, hsz, hR, hW⟩, k, kE⟩ := h
  have e : t.val + (negT u).val = t.val - u.val := by rw [negT_val]; omega
  exact x_call2 (R1 := fun v H => NumV K H v t) (R2 := fun v H => NumV K H v (negT u)) (er_var rfl fun H1 e1 => hx.ex e1) numT.mono (er_negate (er_var rfl fun H1 e1 => hy.ex e1) (by have := hu.ln; omega)) numT.mono _ fun v v' H1 e1 g g' => ⟨R, W, ⟨t, negT u, g, g', ht, hu.neg, by rw [e]; exact hsz, by rw [e]; exact hR, by rw [e]; exact hW⟩, fun w H2 e2 hw => k w H2 (e1.trans e2) hw, fun C H2 e2 hC => kE C H2 (e1.trans e2) hC⟩
end
/-! ### bare_shift -/
def shL (p : Int) (l : List (Int × T)) : List (Int × T) := l.map fun x => (x.1, toT (x.2.val + p))
def pBShift (K : PySem.W.Frag) : V → V → Hp → VP → Prop := fun x y H R => ∃ (t p : T), NumV K H x t ∧ NumV K H y p ∧ t.toL.length < 90000 ∧ (∀ x ∈ t.toL, PlOk x.2) ∧ PlOk p ∧ R = fun v H' => NumV K H' v (ofL (shL p.val t.toL))
def sp_bare_shift (K : PySem.W.Frag) : Sp := spF2 (pBShift K)
def t_bare_shift (K : PySem.W.Frag) : TS := (tSeq (tAsg (tCall (sp_value_within K 45) [] E0 (tCons (tVar 1) (tCons (tC (.int 512)) tNil))) (gName 2))
    (tSeq (tIfS (tTest (tOp xNotN (tVar 2) (tC .non))) (tRet (tThen (tLc (iTup K (tVar 0)) (gTup K 2 (gCons (gName 3) (gCons (gName 4) gNil))) tYes (tTup (tCons (tVar 3) (tCons (tCall (sp_plus_small K) [] E0 (tCons (tVar 4) (tCons (tVar 2) tNil))) tNil))) [3, 4]) (kTup K))) tNext)
    (tRet (tThen (tLc (iTup K (tVar 0)) (gTup K 2 (gCons (gName 3) (gCons (gName 4) gNil))) tYes (tTup (tCons (tVar 3) (tCons (tCall (sp_plus K) [] E0 (tCons (tVar 4) (tCons (tVar 1) tNil))) tNil))) [3, 4]) (kTup K)))))
theorem pure_bare_shift {K : PySem.W.Frag} {vs : List V} {H : Hp} {Q : VK} {E : XK} (h : sp_bare_shift K vs H Q E) : t_bare_shift K { nx := fun _ H' => Q .non H', rt := Q } (start ["terms", "places", "value", "sign", "exponent"] vs) H := by
  obtain ⟨x, y, R, rfl, ⟨t, p, hx, hy, hl, hok, hp, rfl⟩, k⟩ := h
  obtain ⟨a, xs, rfl, ha, hxs⟩ := hx.out
  refine q_asgR (er_call2 (R1 := fun v H => NumV K H v p) (R2 := fun v _ => v = .int ((512 : Nat) : Int)) (R := fun v _ => v = optV (p.within 512)) (er_var rfl fun H5 e5 => hy.ex e5) numT.mono (er_is ev_c) monoC fun v w' H5 e5 k1 k2 => ⟨p, 512, k1, k2, nn_of_can hp.can (by have := hp.sz; omega), by have := hp.ht; omega, by omega, by have := hp.ln; omega, rfl⟩) fun v H1 e1 hv => ?_
  subst hv
  -- the rows of both ways
  have both : ∀ (tm : TE) (z : V) (H2 : Hp), Ex H H2 → (∀ (s : Int) (e : T) (w : V) (H3 : Hp), (s, e) ∈ t.toL → Ex H2 H3 → NumV K H3 w e → ER tm [some (.ref a), some y, some z, some (.int s), some w] H3 (fun v H' => NumV K H' v (toT (e.val + p.val)))) →
      tRet (tThen (tLc (iTup K (tVar 0)) (gTup K 2 (gCons (gName 3) (gCons (gName 4) gNil))) tYes (tTup (tCons (tVar 3) (tCons tm tNil))) [3, 4]) (kTup K)) { nx := fun _ H' => Q .non H', rt := Q } [some (.ref a), some y, some z, none, none] H2 := by
    intro tm z H2 e2 htm
    refine s_retR (er_tupleOf (R := fun ys H' => ItemsR (fun x => TermI K (x.1, toT (x.2.val + p.val))) t.toL ys H') ((er_lcIT (R1 := TermI K) (R2 := fun x => TermI K (x.1, toT (x.2.val + p.val))) (l := t.toL) (er_ev (ev_var rfl) fun H3 e3 => ⟨a, xs, rfl, ex_t (e2.trans e3) ha, items_terms (hxs.ex (e2.trans e3))⟩) (fun a => (termI a).mono) (fun a => termI _) (by omega) ?_).imp fun v H3 e3 ⟨q, ys, hv, hp0, hp, hit⟩ => ⟨q, ys, hv, sq_of hp, hit⟩) (fun ys Ha Hb e h => h.ex (fun a => (termI _).mono) e)) fun v H3 e3 ⟨q, ys, hv, hp, hit⟩ => k _ _ (e2.trans e3) ?_
    · rintro i ⟨s, e⟩ z' H3 hi ⟨q, w, rfl, hq, hw⟩ e3 Qk kk
      refine g_pair hq ⟨rfl, ?_⟩
      refine (er_tup (ea_two (R := fun v _ => v = .int s) (R' := fun v H3 => NumV K H3 v (toT (e.val + p.val))) (er_is (ev_var rfl)) monoC (htm s e w H3 (List.mem_of_getElem? hi) e3 hw) numT.mono) (fun vs Ha Hb e ⟨v, w, h1, h2, h3⟩ => ⟨v, w, h1, h2, h3.ex e⟩) (fun vs Ha ⟨v, w, h1, _⟩ => by rw [h1]; show 2 ≤ 100000; omega)) H3 (Ex.refl _) _ fun v H4 e4 ⟨q, vs, hv, hp, v', w', g1, g2, g3⟩ => kk v H4 e4 ⟨q, w', hv, st_of (by rw [hp, g1, g2]), g3⟩
    · rw [hv]
      exact NumV.mk (st_of hp) (terms_items (ItemsR.mapT (f := fun x => (x.1, toT (x.2.val + p.val))) hit))
  cases hq : p.within 512 with
  | some q =>
    refine q_when (b := true) (et_test (ev_is (ev_notN (ev_var rfl)) rfl)) (fun _ H2 e2 => ?_) (fun h => by cases h)
    have hvq := within_val _ _ _ hq
    have hbq := within_bound hp.can hq
    refine both _ _ H2 (e1.trans e2) fun s e w H3 hm e3 hw => ?_
    have he : PlOk e := hok _ hm
    exact (er_call2 (R1 := fun v H => NumV K H v e) (R2 := fun v _ => v = .int q) (R := fun v H' => ∃ r, NumV K H' v r ∧ r.can ∧ r.val = e.val + q ∧ r.size ≤ e.size + 40 * (513 + 3 * e.toL.length + 3) ∧ r.height ≤ max e.height 6) (er_var rfl fun H5 e5 => hw.ex e5) numT.mono (er_is (ev_var rfl)) monoC fun v v' H5 e5 k1 k2 => ⟨e, q, 513, k1, k2, he.can, he.ht, fun x hx => by have := mem_size hx; have := he.sz; omega, by have := he.ln; omega, hbq, rfl⟩).imp fun v H5 e5 ⟨r, g1, g2, g3, _⟩ => by
      rw [← hvq, ← g3, ← can_eq g2]; exact g1
  | none =>
    refine q_when (b := false) (et_test (ev_is (ev_notN (ev_var rfl)) rfl)) (fun h => by cases h) (fun _ H2 e2 => ?_)
    exact both _ _ H2 (e1.trans e2) fun s e w H3 hm e3 hw => er_plus (er_var rfl fun H5 e5 => hw.ex e5) (er_var rfl fun H5 e5 => hy.ex (e1.trans (e2.trans (e3.trans e5)))) (hok _ hm) hp
end Sk

set_option Elab.async false
set_option linter.all false
set_option maxRecDepth 100000
set_option maxHeartbeats 1000000
namespace Sk
open PySem L2 Evl
/-! ### shift -/
theorem er_upToM {K : PySem.W.Frag} {σ : L2.St} {H : Hp} {te ta : TE} {p : Addr} {xs : List V} (h : Ev te σ H (.ref p)) (hp : SqT K H p xs) (h0 : 0 < xs.length) (hi : Ev ta σ H (.int (-1))) : ER (tSl (rSlA K) te tNoPart (tPart ta)) σ H (fun v H2 => ∃ q, v = .ref q ∧ SqT K H2 q (xs.take (xs.length - 1))) := fun H1 e Q q => by
  have hs : HT.sIx xs.length xs.length (some (-1)) = xs.length - 1 := by
    show (if (-1 : Int) < 0 then ((-1 : Int) + (xs.length : Int)).toNat else min (-1 : Int).toNat xs.length) = xs.length - 1
    rw [if_pos (by decide)]
    omega
  have hcut : cutV xs none (some (-1)) = xs.take (xs.length - 1) := by
    unfold cutV
    rw [hs]
    rfl
  refine h H1 e _ fun H2 e2 => ?_
  refine eo_none H2 (e.trans e2) _ fun H3 e3 => ?_
  refine eo_some hi H3 ((e.trans e2).trans e3) _ fun H4 e4 => ?_
  have e14 := e2.trans (e3.trans e4)
  refine ⟨p, xs, rfl, ex_t (e.trans e14) hp, fun hw => ?_, fun hw r hr => ?_⟩
  · have h2 := hw.2
    rw [hs] at h2
    omega
  · refine q _ _ (e14.trans (Ex.new hr)) ⟨r, rfl, st_of ?_⟩
    rw [upd_same, hcut]
theorem atI_lastT {α : Type} {xs : List α} {z : α} (h : xs[xs.length - 1]? = some z) : atI xs (-1) = some z := by
  have hl : 0 < xs.length := by
    cases xs with
    | nil => cases h
    | cons => exact Nat.succ_pos _
  unfold atI ixN
  rw [if_neg (by decide), if_pos (by omega)]
  show xs[((-1 : Int) + (xs.length : Int)).toNat]? = some z
  rw [show ((-1 : Int) + (xs.length : Int)).toNat = xs.length - 1 by omega]
  exact h
def pShift (K : PySem.W.Frag) (CB CL : Addr) : V → V → Hp → VP → WP → Prop := fun x y H R W => ∃ (t p : T), NumV K H x t ∧ NumV K H y p ∧ t.toL.length < 80000 ∧ (∀ x ∈ t.toL, PlOk x.2) ∧ PlOk p ∧ (t.toL = [] → ∀ v H', NumV K H' v t → R v H') ∧
  (∀ l s e, t.toL = l ++ [(s, e)] → (e.val + p.val < 0 → W CB) ∧ (0 ≤ e.val + p.val → (ofL (shL p.val t.toL)).szk ∧ ((ofL (shL p.val t.toL)).fits → ∀ v H', NumV K H' v (ofL (shL p.val t.toL)) → R v H') ∧ (¬ (ofL (shL p.val t.toL)).fits → W CL)))
def sp_shift (K : PySem.W.Frag) (CB CL : Addr) : Sp := spX2 K (pShift K CB CL)
def t_shift (K : PySem.W.Frag) (a_BadRange : Addr) (a_TooLarge : Addr) (E : XK) : TS := (tSeq (tIfS (tNot (tTruK K (tVar 0))) (tRet (tVar 0)) tNext)
    (tSeq (tAsg (tOp (rIxT K) (tVar 0) (tUn xNeg (tC (.int 1)))) (gTup K 2 (gCons (gName 3) (gCons (gName 4) gNil))))
    (tSeq (tAsg (tCall (sp_plus K) [] E0 (tCons (tVar 4) (tCons (tVar 1) tNil))) (gName 2))
    (tSeq (tIfS (tTest (tOp xLt (tCall (sp_sign_of K) [] E0 (tCons (tVar 2) tNil)) (tC (.int 0)))) (tRaise K E a_BadRange) tNext)
    (tRet (tCall (sp_allowed K a_TooLarge) [] E (tCons (tOp (rCatA K) (tCall (sp_bare_shift K) [] E0 (tCons (tSl (rSlA K) (tVar 0) tNoPart (tPart (tUn xNeg (tC (.int 1))))) (tCons (tVar 1) tNil))) (tTup (tCons (tTup (tCons (tVar 3) (tCons (tVar 2) tNil))) tNil))) tNil)))))))
theorem pure_shift {K : PySem.W.Frag} {CB CL : Addr} {vs : List V} {H : Hp} {Q : VK} {E : XK} (h : sp_shift K CB CL vs H Q E) : t_shift K CB CL E { nx := fun _ H' => Q .non H', rt := Q } (start ["number", "places", "least", "sign", "exponent"] vs) H := by
  obtain ⟨x, y, R, W, rfl, ⟨t, p, hx, hy, hl, hok, hp, hnil, hmain⟩, k, kE⟩ := h
  obtain ⟨a, xs, rfl, ha, hxs⟩ := hx.out
  have lx := hxs.len
  have it := items_terms hxs
  refine q_when (et_not (et_truT (ev_var rfl) ha)) (fun hb H1 e1 => ?_) (fun hb H1 e1 => ?_)
  · have h0 : xs = [] := by
      cases xs with
      | nil => rfl
      | cons => cases hb
    have h1 : t.toL = [] := List.eq_nil_of_length_eq_zero (by rw [← lx, h0]; rfl)
    exact s_ret (ev_var rfl) fun H2 e2 => k _ _ (e1.trans e2) (hnil h1 _ _ (hx.ex (e1.trans e2)))
  have h0 : 0 < xs.length := by
    cases xs with
    | nil => cases hb
    | cons => exact Nat.succ_pos _
  obtain ⟨⟨s, e⟩, hse⟩ : ∃ z, t.toL[t.toL.length - 1]? = some z := ⟨_, List.getElem?_eq_getElem (by omega)⟩
  obtain ⟨v, hv, q, w, rfl, hq, hw⟩ := it.at hse
  have hsplit : t.toL = t.toL.take (t.toL.length - 1) ++ [(s, e)] := by
    have := take_snoc hse
    rw [show t.toL.length - 1 + 1 = t.toL.length by omega, List.take_length] at this
    exact this
  have hem : (s, e) ∈ t.toL := List.mem_of_getElem? hse
  have he : PlOk e := hok _ hem
  obtain ⟨m1, m2⟩ := hmain _ s e hsplit
  refine q_unpack2 (K := K) (R := fun v _ => v = .ref q) (er_is (ev_atT (ev_var rfl) (ev_neg ev_c) (ex_t e1 ha) (atI_lastT (by rw [lx]; exact hv)))) fun v H2 e2 hv => ⟨q, .int s, w, hv, ex_t (e1.trans e2) hq, ?_⟩
  refine q_asgR (er_plus (t := e) (u := p) (er_var rfl fun H3 e3 => hw.ex (e1.trans (e2.trans e3))) (er_var rfl fun H3 e3 => hy.ex (e1.trans (e2.trans e3))) he hp) fun lv H3 e3 hlv => ?_
  have hsg := can_sgn (toT_can (e.val + p.val))
  rw [toT_val] at hsg
  refine q_when (b := decide ((toT (e.val + p.val)).sgn < 0)) (et_test (ev_lt (ev_er (er_call1 (R1 := fun v H => NumV K H v (toT (e.val + p.val))) (er_var rfl fun H4 e4 => hlv.ex e4) numT.mono fun v H4 e4 g => ⟨_, g, rfl⟩)) ev_c)) (fun hb2 H4 e4 => ?_) (fun hb2 H4 e4 => ?_)
  · have := of_decide_eq_true hb2
    exact (fun Hz ez => kE CB Hz ((e1.trans (e2.trans (e3.trans e4))).trans ez) (m1 (by omega)))
  have hge : 0 ≤ e.val + p.val := by have := of_decide_eq_false hb2; omega
  obtain ⟨m3, m4, m5⟩ := m2 hge
  have e14 := e1.trans (e2.trans (e3.trans e4))
  have hsh : ofL (shL p.val t.toL) = ofL (shL p.val (t.toL.take (t.toL.length - 1)) ++ [(s, toT (e.val + p.val))]) := by
    conv => lhs; rw [hsplit]
    unfold shL
    rw [List.map_append]
    rfl
  refine x_call1 (R1 := fun v H => NumV K H v (ofL (shL p.val t.toL))) ?_ numT.mono _ fun v H5 e5 g => ⟨R, W, ⟨_, g, m3, m4, m5⟩, fun w H6 e6 hw => k w H6 (e14.trans (e5.trans e6)) hw, fun C H6 e6 hC => kE C H6 (e14.trans (e5.trans e6)) hC⟩
  refine (er_catT (P := fun zs H' => ItemsR (TermI K) (shL p.val (t.toL.take (t.toL.length - 1))) zs H') (P' := fun zs H' => ItemsR (TermI K) [(s, toT (e.val + p.val))] zs H') ?_ (fun zs Ha Hb e h => h.ex (fun a => (termI a).mono) e) ?_ (fun zs Ha Hb e h => h.ex (fun a => (termI a).mono) e) ?_).imp fun v H5 e5 ⟨r, zs, zs', hv, hr, g1, g2⟩ => ?_
  · refine (er_call2 (R1 := fun v H => NumV K H v (ofL (t.toL.take (t.toL.length - 1)))) (R2 := fun v H => NumV K H v p) (R := fun v H' => NumV K H' v (ofL (shL p.val (t.toL.take (t.toL.length - 1))))) ((er_upToM (ev_var rfl) (ex_t e14 ha) h0 (ev_neg ev_c)).imp fun v H5 e5 ⟨r, hv, hr⟩ => ?_) numT.mono (er_var rfl fun H5 e5 => hy.ex (e14.trans e5)) numT.mono fun v w H5 e5 g1 g2 => ⟨_, p, g1, g2, by rw [toL_ofL, List.length_take]; omega, fun x hx => hok x (by rw [toL_ofL] at hx; exact List.mem_of_mem_take hx), hp, by rw [toL_ofL]⟩).imp fun v H5 e5 g => ?_
    · rw [hv, lx] at *
      exact NumV.mk hr (terms_items ((it.ex (fun a => (termI a).mono) (e14.trans e5)).take _))
    · obtain ⟨b, zs, hv, h1, h2⟩ := g.out
      have := items_terms h2
      rw [toL_ofL] at this
      exact ⟨b, zs, hv, h1, this⟩
  · refine (er_tup (RA := fun vs H2 => ∃ v, vs = [v] ∧ TermI K (s, toT (e.val + p.val)) v H2) (ea_one ((er_tup (ea_two (R := fun v _ => v = .int s) (R' := fun v H3 => NumV K H3 v (toT (e.val + p.val))) (er_is (ev_var rfl)) monoC (er_var rfl fun H5 e5 => hlv.ex (e4.trans e5)) numT.mono) (fun vs Ha Hb e ⟨v, w, h1, h2, h3⟩ => ⟨v, w, h1, h2, h3.ex e⟩) (fun vs Ha ⟨v, w, h1, _⟩ => by rw [h1]; show 2 ≤ 100000; omega)).imp fun v H5 e5 ⟨q, vs, hv, hp, v', w', g1, g2, g3⟩ => ⟨q, w', hv, st_of (by rw [hp, g1, g2]), g3⟩) (termI _).mono) (fun vs Ha Hb e ⟨v, h1, h2⟩ => ⟨v, h1, (termI _).mono _ _ _ e h2⟩) (fun vs Ha ⟨v, h1, _⟩ => by rw [h1]; show 1 ≤ 100000; omega)).imp fun v H5 e5 ⟨q, vs, hv, hp, v', g1, g2⟩ => ⟨q, [v'], hv, st_of (by rw [hp, g1]), ItemsR.snoc (l := []) (ys := []) .nil g2⟩
  · intro zs zs' H1 H2 g1 g2
    rw [g1.1, g2.1]
    unfold shL
    rw [List.length_map, List.length_take, List.length_singleton]
    omega
  · rw [hv, hsh]
    exact NumV.mk hr (terms_items (g1.append g2))
end Sk

set_option Elab.async false
set_option linter.all false
set_option maxRecDepth 100000
set_option maxHeartbeats 1000000
namespace Sk
open PySem L2 Evl
/-- an exponent in a sum -/
structure SmOk (e : T) : Prop where
  can : e.can
  nn : 0 ≤ e.val
  ht : e.height ≤ 42
  sz : e.size < 1500
  ln : e.toL.length ≤ 500
theorem SmOk.ex {e : T} (h : SmOk e) : ExpOk e := ⟨h.can, h.nn, Nat.le_trans h.ht (by omega), by have := h.sz; omega, by have := h.ln; omega⟩
/-! ### index_in -/
def pIndexIn (K : PySem.W.Frag) : V → V → Hp → VP → Prop := fun x y H R => ∃ (p : Addr) (ys : List V) (rw : List (Int × T)) (e : T), x = .ref p ∧ H p = some (.lst ys) ∧ ItemsR (TermI K) rw ys H ∧ NumV K H y e ∧ (∀ x ∈ rw, SmOk x.2) ∧ SmOk e ∧ rw.Pairwise (fun a b => a.2.val ≤ b.2.val) ∧ rw.length ≤ 2000 ∧
  R = fun v _ => ∃ n : Nat, v = .int (n : Int) ∧ n ≤ rw.length ∧ (∀ (i : Nat) (x : Int × T), i < n → rw[i]? = some x → x.2.val < e.val) ∧ (∀ (i : Nat) (x : Int × T), n ≤ i → rw[i]? = some x → e.val ≤ x.2.val)
def sp_index_in (K : PySem.W.Frag) : Sp := spF2 (pIndexIn K)
def t_index_in (K : PySem.W.Frag) : TS := (tSeq (tAsg (tC (.int 0)) (gName 2))
    (tSeq (tAsg (tCB (rLenS K) (tCons (tVar 0) tNil)) (gName 3))
    (tSeq (tWhile (tTest (tOp xLt (tVar 2) (tVar 3))) (tSeq (tAsg (tOp xFdiv (tOp xAdd (tVar 2) (tVar 3)) (tC (.int 2))) (gName 4))
    (tIfS (tTest (tOp xLt (tCall (sp_order K) [] E0 (tCons (tOp (rIxT K) (tOp (rIxL K) (tVar 0) (tVar 4)) (tC (.int 1))) (tCons (tVar 1) tNil))) (tC (.int 0)))) (tAsg (tOp xAdd (tVar 4) (tC (.int 1))) (gName 2)) (tAsg (tVar 4) (gName 3)))))
    (tRet (tVar 2)))))
theorem pure_index_in {K : PySem.W.Frag} {vs : List V} {H : Hp} {Q : VK} {E : XK} (h : sp_index_in K vs H Q E) : t_index_in K { nx := fun _ H' => Q .non H', rt := Q } (start ["row", "exponent", "begin", "end", "middle"] vs) H := by
  obtain ⟨x, y, R, rfl, ⟨p, ys, rw, e, rfl, hp, hit, hy, hok, he, hasc, hl, rfl⟩, k⟩ := h
  have hyl : ys.length = rw.length := hit.1
  refine q_asg ev_c fun H1 e1 => ?_
  refine q_asg (ev_is (ev_lenL (ev_var rfl) (sq_of (e1 p _ hp))) (by rw [hyl])) fun H2 e2 => ?_
  refine q_while' (fun m σ H' => ∃ (b d : Nat) (z : Option V), σ = [some (.ref p), some y, some (.int (b : Int)), some (.int (d : Int)), z] ∧ Ex H H' ∧ b ≤ d ∧ d ≤ rw.length ∧ m = d - b ∧ (∀ (i : Nat) (x : Int × T), i < b → rw[i]? = some x → x.2.val < e.val) ∧ (∀ (i : Nat) (x : Int × T), d ≤ i → rw[i]? = some x → e.val ≤ x.2.val)) rw.length
    ⟨0, rw.length, none, rfl, e1.trans e2, Nat.zero_le _, Nat.le_refl _, rfl, fun i x h => absurd h (Nat.not_lt_zero _), fun i x h h' => absurd (List.getElem?_eq_some_iff.mp h').1 (by omega)⟩ ?_
  rintro m σ' H' ⟨b, d, z, rfl, e3, hbd, hd, rfl, hlo, hhi⟩
  refine ⟨decide ((b : Int) < (d : Int)), et_test (ev_lt (ev_var rfl) (ev_var rfl)), fun hc H4 e4 => ?_, fun hc H4 e4 => ?_⟩
  · have hlt : b < d := by have := of_decide_eq_true hc; omega
    refine q_asg (v := .int (((b + d) / 2 : Nat) : Int)) (ev_is (ev_fdiv (ev_add (ev_var rfl) (ev_var rfl)) ev_c ⟨by decide, by decide⟩) (congrArg V.int (by omega))) fun H5 e5 => ?_
    have hm1 : b ≤ (b + d) / 2 := by omega
    have hm2 : (b + d) / 2 < d := by omega
    generalize (b + d) / 2 = n at hm1 hm2 ⊢
    obtain ⟨a, hget⟩ : ∃ a, rw[n]? = some a := ⟨_, List.getElem?_eq_getElem (by omega)⟩
    obtain ⟨yv, hyv, q, w, rfl, hq, hw⟩ := hit.at hget
    have ha := hok a (List.mem_of_getElem? hget)
    have e35 := e3.trans (e4.trans e5)
    refine s_if (b := decide (a.2.val < e.val)) (et_test (ev_is (ev_lt (ev_er (er_call2 (R1 := fun v H => NumV K H v a.2) (R2 := fun v H => NumV K H v e) (er_ev (ev_rowE (s := a.1) (ev_var rfl) (ev_var rfl) (e35 p _ hp) hyv (ex_t e35 hq)) fun H6 e6 => hw.ex (e35.trans e6)) numT.mono (er_var rfl fun H6 e6 => hy.ex (e35.trans e6)) numT.mono
      fun v w H6 e6 k1 k2 => ⟨a.2, e, k1, k2, ha.can, he.can, by have := ha.ht; omega, by have := ha.sz; omega, by have := he.sz; omega, rfl⟩)) ev_c) (congrArg V.bl (cmp_neg _ _)))) (fun hc2 H6 e6 => ?_) (fun hc2 H6 e6 => ?_)
    · have hv := of_decide_eq_true hc2
      refine s_asg (v := .int ((n + 1 : Nat) : Int)) (ev_is (ev_add (ev_var rfl) ev_c) (by rfl)) fun H7 e7 => ⟨d - (n + 1), by omega, n + 1, d, _, rfl, e35.trans (e6.trans e7), by omega, hd, rfl, fun i x hi hx => ?_, hhi⟩
      have := asc_at hasc hx hget (by omega)
      omega
    · have hv := of_decide_eq_false hc2
      refine s_asg (ev_var rfl) fun H7 e7 => ⟨n - b, by omega, b, n, _, rfl, e35.trans (e6.trans e7), by omega, by omega, rfl, hlo, fun i x hi hx => ?_⟩
      have := asc_at hasc hget hx hi
      omega
  · have hbd' : b = d := by have := of_decide_eq_false hc; omega
    subst hbd'
    exact s_ret (ev_var rfl) fun H5 e5 => k _ _ (e3.trans (e4.trans e5)) ⟨b, rfl, hd, hlo, hhi⟩
/-! ### bare_sum -/
/-- the rows of a sum on the way -/
structure RowS (rw : List (Int × T)) (n : Nat) : Prop where
  ok : ∀ x ∈ rw, SmOk x.2
  asc : rw.Pairwise (fun a b => a.2.val < b.2.val)
  cnt : cntT rw ≤ n
  len : rw.length ≤ n
theorem cntT_app (l l' : List (Int × T)) : cntT (l ++ l') = cntT l + cntT l' := by
  unfold cntT
  rw [List.map_append, List.sum_append]
theorem cntT_mem {l : List (Int × T)} {x : Int × T} (h : x ∈ l) : x.1.natAbs ≤ cntT l := by
  obtain ⟨a, b, rfl⟩ := List.append_of_mem h
  rw [cntT_app, cntT_cons]
  omega
theorem split_at {α : Type} {l : List α} {i : Nat} {a : α} (h : l[i]? = some a) : l = l.take i ++ a :: l.drop (i + 1) := by
  rw [← drop_cons h, List.take_append_drop]
theorem set_split {α : Type} {l : List α} {i : Nat} {a b : α} (h : l[i]? = some a) : l.set i b = l.take i ++ b :: l.drop (i + 1) := by
  have hi := (List.getElem?_eq_some_iff.mp h).1
  conv => lhs; rw [split_at h]
  rw [List.set_append_right _ _ (by rw [List.length_take]; omega), List.length_take, Nat.min_eq_left (by omega), Nat.sub_self]
  rfl
theorem RowS.set {rw : List (Int × T)} {n i : Nat} {c s : Int} {e : T} (h : RowS rw n) (hg : rw[i]? = some (c, e)) (hs : s = 1 ∨ s = -1) : RowS (rw.set i (c + s, e)) (n + 1) ∧ sumT (rw.set i (c + s, e)) = sumT rw + s * 2 ^ e.val.toNat := by
  have h1 := split_at hg
  have h2 := set_split (b := (c + s, e)) hg
  have ha := h.asc
  rw [h1] at ha
  refine ⟨⟨fun x hx => ?_, ?_, ?_, by rw [List.length_set]; have := h.len; omega⟩, ?_⟩
  · rw [h2] at hx
    rcases List.mem_append.mp hx with q | q
    · exact h.ok x (List.mem_of_mem_take q)
    · rcases List.mem_cons.mp q with q | q
      · rw [q]; exact h.ok (c, e) (List.mem_of_getElem? hg)
      · exact h.ok x (List.mem_of_mem_drop q)
  · rw [h2]
    rw [List.pairwise_append] at ha ⊢
    rw [List.pairwise_cons] at ha ⊢
    exact ⟨ha.1, ⟨fun x hx => ha.2.1.1 x hx, ha.2.1.2⟩, fun a h3 b h4 => by
      rcases List.mem_cons.mp h4 with q | q
      · rw [q]; exact ha.2.2 a h3 (c, e) (List.mem_cons_self ..)
      · exact ha.2.2 a h3 b (List.mem_cons_of_mem _ q)⟩
  · have hc := h.cnt
    have h5 : cntT rw = cntT (rw.take i) + (c.natAbs + cntT (rw.drop (i + 1))) := by conv => lhs; rw [h1, cntT_app, cntT_cons]
    rw [h2, cntT_app, cntT_cons]
    show cntT (rw.take i) + ((c + s).natAbs + cntT (rw.drop (i + 1))) ≤ n + 1
    omega
  · have h5 : sumT rw = sumT (rw.take i) + (c * 2 ^ e.val.toNat + sumT (rw.drop (i + 1))) := by conv => lhs; rw [h1, sumT_app, sumT_cons]
    rw [h2, sumT_app, sumT_cons, h5]
    show sumT (rw.take i) + ((c + s) * 2 ^ e.val.toNat + sumT (rw.drop (i + 1))) = _
    rw [Int.add_mul]
    omega
theorem RowS.ins {rw : List (Int × T)} {n i : Nat} {s : Int} {e : T} (h : RowS rw n) (hs : s = 1 ∨ s = -1) (he : SmOk e) (hlo : ∀ (j : Nat) (x : Int × T), j < i → rw[j]? = some x → x.2.val < e.val) (hhi : ∀ (j : Nat) (x : Int × T), i ≤ j → rw[j]? = some x → e.val < x.2.val) (hi : i ≤ rw.length) : RowS (rw.take i ++ [(s, e)] ++ rw.drop i) (n + 1) ∧ sumT (rw.take i ++ [(s, e)] ++ rw.drop i) = sumT rw + s * 2 ^ e.val.toNat := by
  have h1 : rw = rw.take i ++ rw.drop i := (List.take_append_drop i rw).symm
  have ha := h.asc
  rw [h1, List.pairwise_append] at ha
  have lo : ∀ x ∈ rw.take i, x.2.val < e.val := fun x hx => by
    obtain ⟨j, hj⟩ := List.getElem?_of_mem hx
    have hlt := (List.getElem?_eq_some_iff.mp hj).1
    rw [List.length_take] at hlt
    rw [List.getElem?_take_of_lt (by omega)] at hj
    exact hlo j x (by omega) hj
  have hi2 : ∀ x ∈ rw.drop i, e.val < x.2.val := fun x hx => by
    obtain ⟨j, hj⟩ := List.getElem?_of_mem hx
    rw [List.getElem?_drop] at hj
    exact hhi _ x (Nat.le_add_right _ _) hj
  refine ⟨⟨fun x hx => ?_, ?_, ?_, ?_⟩, ?_⟩
  · rw [List.append_assoc] at hx
    rcases List.mem_append.mp hx with q | q
    · exact h.ok x (List.mem_of_mem_take q)
    · rcases List.mem_cons.mp q with q | q
      · rw [q]; exact he
      · exact h.ok x (List.mem_of_mem_drop q)
  · rw [List.append_assoc, List.pairwise_append]
    refine ⟨ha.1, List.pairwise_cons.mpr ⟨fun x hx => hi2 x hx, ha.2.1⟩, fun a h3 b h4 => ?_⟩
    rcases List.mem_cons.mp h4 with q | q
    · rw [q]; exact lo a h3
    · exact ha.2.2 a h3 b q
  · have hc := h.cnt
    rw [h1, cntT_app] at hc
    rw [cntT_app, cntT_app, cntT_cons]
    show cntT (rw.take i) + (s.natAbs + cntT []) + cntT (rw.drop i) ≤ n + 1
    have : cntT [] = 0 := rfl
    omega
  · have := h.len
    rw [List.length_append, List.length_append, List.length_take, List.length_drop, List.length_singleton]
    omega
  · have h5 : sumT rw = sumT (rw.take i) + sumT (rw.drop i) := by conv => lhs; rw [h1, sumT_app]
    rw [sumT_app, sumT_app, sumT_cons, sumT_nil, h5]
    show sumT (rw.take i) + (s * 2 ^ e.val.toNat + 0) + sumT (rw.drop i) = _
    omega
theorem RowS.row {rw : List (Int × T)} {n : Nat} (h : RowS rw n) (hn : n ≤ 400) : RowOk rw rw.length ∧ cntT rw ≤ 50000 :=
  ⟨⟨fun x hx => (h.ok x hx).ex, h.asc.imp fun k => Int.le_of_lt k, fun i x hi hx => absurd (List.getElem?_eq_some_iff.mp hx).1 (by omega), by rw [List.drop_length]; exact List.Pairwise.nil, fun x hx => by have := cntT_mem hx; have := h.cnt; omega, by have := h.len; omega, Nat.le_refl _⟩, by have := h.cnt; omega⟩
end Sk

set_option Elab.async false
set_option linter.all false
set_option maxRecDepth 100000
set_option maxHeartbeats 1000000
namespace Sk
open PySem L2 Evl
/-! ### bare_sum -/
def pBSum (K : PySem.W.Frag) : V → Hp → VP → Prop := fun x H R => ∃ (p : Addr) (ys : List V) (l : List (Int × T)), x = .ref p ∧ H p = some (.lst ys) ∧ ItemsR (TermI K) l ys H ∧ l.length ≤ 400 ∧ (∀ x ∈ l, (x.1 = 1 ∨ x.1 = -1) ∧ SmOk x.2) ∧ R = fun v H' => NumV K H' v (toT (sumT l))
def sp_bare_sum (K : PySem.W.Frag) : Sp := spF1 (pBSum K)
def t_bare_sum (K : PySem.W.Frag) : TS := (tSeq (tAsg (tC (.int 0)) (gName 1))
    (tSeq (tAsg (tLst tNil) (gName 2))
    (tSeq (tFor (iList K (tVar 0)) (gTup K 2 (gCons (gName 3) (gCons (gName 4) gNil))) (tSeq (tAsg (tCall (sp_value_within K 45) [] E0 (tCons (tVar 4) (tCons (tC (.int 9)) tNil))) (gName 5))
    (tSeq (tIfS (tTest (tOp xNotN (tVar 5) (tC .non))) (tSeq (tAug 1 (tOp xShl (tVar 3) (tVar 5)) (ipI fun i j => i + j))
    tCont) tNext)
    (tSeq (tAsg (tCall (sp_index_in K) [] E0 (tCons (tVar 2) (tCons (tVar 4) tNil))) (gName 6))
    (tIfS (tAnd (tTest (tOp xLt (tVar 6) (tCB (rLenS K) (tCons (tVar 2) tNil)))) (tTest (tOp (rEqN K) (tOp (rIxT K) (tOp (rIxL K) (tVar 2) (tVar 6)) (tC (.int 1))) (tVar 4)))) (tAsg (tTup (tCons (tOp xAdd (tOp (rIxT K) (tOp (rIxL K) (tVar 2) (tVar 6)) (tC (.int 0))) (tVar 3)) (tCons (tVar 4) tNil))) (gSub (tVar 2) (tVar 6) rSetL)) (tDrop (tBM K "list" rInsert (tVar 2) (tCons (tVar 6) (tCons (tTup (tCons (tVar 3) (tCons (tVar 4) tNil))) tNil)))))))))
    (tRet (tCall (sp_plus_small K) [] E0 (tCons (tCall (sp_settled K) [] E0 (tCons (tVar 2) (tCons (tCB (rLenS K) (tCons (tVar 2) tNil)) tNil))) (tCons (tVar 1) tNil)))))))
theorem s_insR' {K : PySem.W.Frag} {σ : L2.St} {H : Hp} {te ta tb : TE} {D : Ends} {R : VP} {l : Addr} {xs : List V} {j : Nat} (hl : H l = some (.lst xs)) (hv : Ev ta σ H (.ref l)) (hb : Ev tb σ H (.int (j : Int))) (h : ER te σ H R) (hz : xs.length < 100000) (hj : j ≤ xs.length) (k : ∀ v H1, Ex H H1 → R v H1 → D.nx σ (upd H1 l (.lst (xs.take j ++ [v] ++ xs.drop j)))) :
    tDrop (tBM K "list" rInsert ta (tCons tb (tCons te tNil))) D σ H := hv H (Ex.refl H) _ fun H1 e1 =>
  ⟨Or.inl ⟨rfl, xs, sq_of (e1 l _ hl)⟩, hb H1 e1 _ fun H2 e2 => h H2 (e1.trans e2) _ fun v H3 e3 r => ⟨l, xs, _, v, rfl, rfl, (e1.trans (e2.trans e3)) l _ hl, sz_lt hz, by omega, by omega, by rw [Int.toNat_natCast]; exact k v H3 (e1.trans (e2.trans e3)) r⟩⟩
theorem er_term {K : PySem.W.Frag} {σ : L2.St} {H : Hp} {te tf : TE} {s : Int} {e : T} (h1 : Ev te σ H (.int s)) (h2 : ER tf σ H (fun v H => NumV K H v e)) : ER (tTup (tCons te (tCons tf tNil))) σ H (TermI K (s, e)) :=
  (er_tup (ea_two (R := fun v _ => v = .int s) (R' := fun v H3 => NumV K H3 v e) (er_is h1) monoC h2 numT.mono) (fun vs Ha Hb e ⟨v, w, h1, h2, h3⟩ => ⟨v, w, h1, h2, h3.ex e⟩) (fun vs Ha ⟨v, w, h1, _⟩ => by rw [h1]; show 2 ≤ 100000; omega)).imp fun v H5 e5 ⟨q, vs, hv, hp, v', w', g1, g2, g3⟩ => ⟨q, w', hv, st_of (by rw [hp, g1, g2]), g3⟩
def PvSum (K : PySem.W.Frag) (p lr : Addr) (l : List (Int × T)) (X : Nat) (H0 : Hp) (i : Nat) (σ : L2.St) (H : Hp) : Prop := ∃ (tot : Int) (rw : List (Int × T)) (rs : List V) (z3 z4 z5 z6 : Option V), σ = [some (.ref p), some (.int tot), some (.ref lr), z3, z4, z5, z6] ∧ Ex H0 H ∧ H lr = some (.lst rs) ∧ ItemsR (TermI K) rw rs H ∧ RowS rw i ∧ tot + sumT rw = sumT (l.take i) ∧ tot.natAbs ≤ i * X
theorem RowS.up {rw : List (Int × T)} {n : Nat} (h : RowS rw n) : RowS rw (n + 1) := ⟨h.ok, h.asc, Nat.le_succ_of_le h.cnt, Nat.le_succ_of_le h.len⟩
theorem pure_bare_sum {K : PySem.W.Frag} {vs : List V} {H : Hp} {Q : VK} {E : XK} (h : sp_bare_sum K vs H Q E) : t_bare_sum K { nx := fun _ H' => Q .non H', rt := Q } (start ["terms", "total", "row", "sign", "exponent", "place", "at"] vs) H := by
  obtain ⟨x, R, rfl, ⟨p, ys, l, rfl, hp, hit, hl, hok, rfl⟩, k⟩ := h
  obtain ⟨X, hX, hX2⟩ : ∃ X : Nat, (∀ n : Nat, n ≤ 1024 → 2 ^ n ≤ X) ∧ 400 * X ≤ 2 ^ 1033 := by
    refine ⟨2 ^ 1024, fun n hn => Nat.pow_le_pow_right (by decide) hn, ?_⟩
    have h1 : (2 : Nat) ^ (9 + 1024) = 2 ^ 9 * 2 ^ 1024 := Nat.pow_add 2 9 1024
    have h2 : (2 : Nat) ^ 1033 = 2 ^ (9 + 1024) := rfl
    rw [h2, h1]
    exact Nat.mul_le_mul_right _ (by decide)
  refine q_asg ev_c fun H1 e1 => ?_
  refine q_asgL (el_lst ea_nil (by decide)) fun lr H2 hlr e2 h2 => ?_
  have hlr0 : H lr = none := fresh_back e1 hlr
  refine q_forL (xs := ys) (ev_var rfl) (sq_of ((e1.trans e2) p _ hp)) (PvSum K p lr l X H) (fun H3 e3 => ⟨0, [], [], none, none, none, none, rfl, e1.trans (e2.trans e3), e3 lr _ h2, .nil, ⟨fun x hx => absurd hx List.not_mem_nil, List.Pairwise.nil, Nat.le_refl _, Nat.le_refl _⟩, rfl, by simp⟩) (fun i σ' H' _ ⟨_, _, _, _, _, _, _, _, e, _⟩ => sq_of (e p _ hp)) ?_ ?_
  · rintro i y σ' H' hy ⟨tot, rw, rs, z3, z4, z5, z6, rfl, e3, h3, hir, hS, hsum, htot⟩
    obtain ⟨⟨s, e⟩, hget, q, w, rfl, hq, hw⟩ := hit.of_at hy
    have hi : i < l.length := (List.getElem?_eq_some_iff.mp hget).1
    obtain ⟨hs, he⟩ := hok (s, e) (List.mem_of_getElem? hget)
    have he : SmOk e := he
    have hs : s = 1 ∨ s = -1 := hs
    have htk : sumT (l.take (i + 1)) = sumT (l.take i) + s * 2 ^ e.val.toNat := by rw [take_snoc hget, sumT_app, sumT_cons, sumT_nil]; show sumT (l.take i) + (s * 2 ^ e.val.toNat + 0) = _; omega
    have hrl : rs.length ≤ 400 := by rw [hir.1]; have := hS.len; omega
    refine g_pair (ex_t e3 hq) ?_
    refine q_asgR (er_call2 (R1 := fun v H => NumV K H v e) (R2 := fun v _ => v = .int ((9 : Nat) : Int)) (R := fun v _ => v = optV (e.within 9)) (er_var rfl fun H5 e5 => hw.ex (e3.trans e5)) numT.mono (er_is ev_c) monoC fun v w' H5 e5 k1 k2 => ⟨e, 9, k1, k2, nn_of_can he.can (by have := he.sz; omega), by have := he.ht; omega, by omega, by have := he.ln; omega, rfl⟩) fun v H4 e4 hv => ?_
    subst hv
    cases hq9 : e.within 9 with
    | some pl =>
      have hvq := within_val _ _ _ hq9
      have hbq := within_bound he.can hq9
      have hnn := he.nn
      have hpl : 0 ≤ pl ∧ pl ≤ 1024 := ⟨by omega, by
        have h10 : (2 : Nat) ^ (9 + 1) = 1024 := by decide
        rw [h10] at hbq
        omega⟩
      refine q_when (b := true) (et_test (ev_is (ev_notN (ev_var rfl)) rfl)) (fun _ H5 e5 => ?_) (fun h => by cases h)
      refine q_aug (a := tot) (b := s * 2 ^ pl.toNat) rfl (ev_shl (ev_var rfl) (ev_var rfl) ⟨hpl.1, by omega, by rcases hs with h | h <;> rw [h] <;> decide⟩) fun H6 e6 => ?_
      unfold tCont
      dsimp only
      refine ⟨tot + s * 2 ^ pl.toNat, rw, rs, _, _, _, _, rfl, e3.trans (e4.trans (e5.trans e6)), (e4.trans (e5.trans e6)) lr _ h3, hir.ex (fun x => (termI x).mono) (e4.trans (e5.trans e6)), hS.up, by rw [htk, ← hvq]; omega, ?_⟩
      have h7 := hX pl.toNat (by omega)
      have h8 : (s * 2 ^ pl.toNat).natAbs = 2 ^ pl.toNat := by
        rw [Int.natAbs_mul, Int.natAbs_pow]
        rcases hs with h | h <;> rw [h] <;> simp
      have h9 := Int.natAbs_add_le tot (s * 2 ^ pl.toNat)
      rw [Nat.succ_mul]
      omega
    | none =>
      refine q_when (b := false) (et_test (ev_is (ev_notN (ev_var rfl)) rfl)) (fun h => by cases h) (fun _ H5 e5 => ?_)
      have e35 := e3.trans (e4.trans e5)
      have hirx : ∀ {H6}, Ex H5 H6 → ItemsR (TermI K) rw rs H6 := fun e => hir.ex (fun x => (termI x).mono) ((e4.trans e5).trans e)
      refine q_asgR (R := fun v _ => ∃ n : Nat, v = .int (n : Int) ∧ n ≤ rw.length ∧ (∀ (i : Nat) (x : Int × T), i < n → rw[i]? = some x → x.2.val < e.val) ∧ (∀ (i : Nat) (x : Int × T), n ≤ i → rw[i]? = some x → e.val ≤ x.2.val)) (er_call2 (R1 := fun v H' => v = .ref lr ∧ H' lr = some (.lst rs) ∧ ItemsR (TermI K) rw rs H') (R2 := fun v H => NumV K H v e) (er_var rfl fun H6 e6 => ⟨rfl, (e4.trans (e5.trans e6)) lr _ h3, hirx e6⟩) (fun v Ha Hb e ⟨g1, g2, g3⟩ => ⟨g1, e lr _ g2, g3.ex (fun x => (termI x).mono) e⟩) (er_var rfl fun H6 e6 => hw.ex (e35.trans e6)) numT.mono
        fun v w H6 e6 ⟨g1, g2, g3⟩ g4 => ⟨lr, rs, rw, e, g1, g2, g3, g4, hS.ok, he, hS.asc.imp fun k => Int.le_of_lt k, by have := hS.len; omega, rfl⟩) fun v H6 e6 ⟨n, hv, hn, hlo, hhi⟩ => ?_
      subst hv
      have e46 := e4.trans (e5.trans e6)
      have h6 := e46 lr _ h3
      have hlen : rs.length = rw.length := hir.1
      refine s_if (b := decide ((n : Int) < (rw.length : Int)) && decide ((rw.getD n (0, .nil)).2 = e)) (et_and (et_test (ev_is (ev_lt (ev_var rfl) (ev_lenL (ev_var rfl) (sq_of h6))) (by rw [hlen]))) fun hlt => ?_) (fun hb H7 e7 => ?_) (fun hb H7 e7 => ?_)
      · have hlt' : n < rw.length := by have := of_decide_eq_true hlt; omega
        have hg : rw[n]? = some (rw.getD n (0, .nil)) := by rw [List.getD_eq_getElem?_getD, List.getElem?_eq_getElem hlt']; rfl
        obtain ⟨yv, hyv, q', w', rfl, hq', hw'⟩ := hir.at hg
        have ho := hS.ok _ (List.mem_of_getElem? hg)
        exact et_test (ev_eqN (er_ev (ev_rowE (s := (rw.getD n (0, .nil)).1) (ev_var rfl) (ev_var rfl) h6 hyv (ex_t e46 hq')) fun H8 e8 => hw'.ex (e46.trans e8)) (er_var rfl fun H8 e8 => hw.ex (e3.trans (e46.trans e8))) (by have := ho.ht; omega))
      · rw [Bool.and_eq_true, decide_eq_true_eq, decide_eq_true_eq] at hb
        have hlt' : n < rw.length := by omega
        have hg0 : rw[n]? = some (rw.getD n (0, .nil)) := by rw [List.getD_eq_getElem?_getD, List.getElem?_eq_getElem hlt']; rfl
        have hg : rw[n]? = some ((rw.getD n (0, .nil)).1, e) := by rw [hg0]; exact congrArg some (Prod.ext rfl hb.2)
        generalize (rw.getD n (0, .nil)).1 = c at hg
        obtain ⟨yv, hyv, q', w', rfl, hq', hw'⟩ := hir.at hg
        obtain ⟨g1, g2⟩ := hS.set hg hs
        have h7 := e7 lr _ h6
        refine s_setR (j := n) h7 (er_term (s := c + s) (e := e) (ev_add (ev_rowS (w := w') (ev_var rfl) (ev_var rfl) h7 hyv (ex_t (e46.trans e7) hq')) (ev_var rfl)) (er_var rfl fun H8 e8 => hw.ex (e3.trans ((e46.trans e7).trans e8)))) (ev_var rfl) (ev_var rfl) (by omega) (termI _).mono fun v H8 e8 hv => ⟨tot, rw.set n (c + s, e), rs.set n v, _, _, _, _, rfl, Ex.mut (e3.trans (e46.trans (e7.trans e8))) hlr0, upd_same, ?_, g1, by rw [g2, htk, ← hsum]; omega, by rw [Nat.succ_mul]; omega⟩
        exact (ItemsR.set (hir.ex (fun x => (termI x).mono) (e46.trans (e7.trans e8))) hv).tex termI (TEx.put (e8 lr _ h7))
      · have hstr : ∀ (j : Nat) (x : Int × T), n ≤ j → rw[j]? = some x → e.val < x.2.val := fun j x hj hx => by
          have h1 := hhi j x hj hx
          rcases Int.lt_or_eq_of_le h1 with h2 | h2
          · exact h2
          · exfalso
            have hjl := (List.getElem?_eq_some_iff.mp hx).1
            have hlt' : n < rw.length := by omega
            have hg0 : rw[n]? = some (rw.getD n (0, .nil)) := by rw [List.getD_eq_getElem?_getD, List.getElem?_eq_getElem hlt']; rfl
            have h3 := hhi n _ (Nat.le_refl _) hg0
            have h4 : (rw.getD n (0, .nil)).2.val ≤ x.2.val := asc_at (hS.asc.imp fun k => Int.le_of_lt k) hg0 hx hj
            have h5 : (rw.getD n (0, .nil)).2 = e := can_uniq (hS.ok _ (List.mem_of_getElem? hg0)).can he.can (by omega)
            rw [decide_eq_true (by omega), decide_eq_true h5] at hb
            cases hb
        obtain ⟨g1, g2⟩ := hS.ins hs he hlo hstr hn
        have h7 := e7 lr _ h6
        refine s_insR' (j := n) h7 (ev_var rfl) (ev_var rfl) (er_term (s := s) (e := e) (ev_var rfl) (er_var rfl fun H8 e8 => hw.ex (e3.trans ((e46.trans e7).trans e8)))) (by omega) (by omega) fun v H8 e8 hv => ⟨tot, rw.take n ++ [(s, e)] ++ rw.drop n, _, _, _, _, _, rfl, Ex.mut (e3.trans (e46.trans (e7.trans e8))) hlr0, upd_same, ?_, g1, by rw [g2, htk, ← hsum]; omega, by rw [Nat.succ_mul]; omega⟩
        exact (ItemsR.ins n (hir.ex (fun x => (termI x).mono) (e46.trans (e7.trans e8))) hv).tex termI (TEx.put (e8 lr _ h7))
  · rintro σ' H' ⟨tot, rw, rs, z3, z4, z5, z6, rfl, e3, h3, hir, hS, hsum, htot⟩
    have hyl : ys.length = l.length := hit.1
    rw [hyl] at hS hsum htot
    rw [List.take_length] at hsum
    obtain ⟨r1, r2⟩ := hS.row hl
    have hlen : rs.length = rw.length := hir.1
    have hcl := hS.cnt
    have htb : tot.natAbs ≤ 2 ^ 1033 := Nat.le_trans htot (Nat.le_trans (Nat.mul_le_mul_right X hl) hX2)
    refine s_retR (er_call (R := fun v H' => ∃ r, NumV K H' v r ∧ r.can ∧ r.val = sumT rw + tot) (ea_two (R := fun v H' => ∃ u, NumV K H' v u ∧ Settled rw u) (R' := fun v _ => v = .int tot)
      (er_call2 (R1 := fun v H' => v = .ref lr ∧ H' lr = some (.lst rs) ∧ ItemsR (TermI K) rw rs H') (R2 := fun v _ => v = .int (rw.length : Int)) (er_var rfl fun H6 e6 => ⟨rfl, e6 lr _ h3, hir.ex (fun x => (termI x).mono) e6⟩) (fun v Ha Hb e ⟨g1, g2, g3⟩ => ⟨g1, e lr _ g2, g3.ex (fun x => (termI x).mono) e⟩) (er_is (ev_is (ev_lenL (ev_var rfl) (sq_of h3)) (by rw [hlen]))) monoC fun v w H6 e6 ⟨g1, g2, g3⟩ g4 => ⟨lr, rs, rw, rw.length, g1, g2, g3, g4, r1, r2, rfl⟩)
      (fun v Ha Hb e ⟨u, g1, g2⟩ => ⟨u, g1.ex e, g2⟩) (er_is (ev_var rfl)) monoC) fun vs H6 e6 ⟨v, w, hv, ⟨u, g1, g2⟩, g3⟩ => ?_) fun v H6 e6 ⟨r, g1, g2, g3⟩ => k _ _ (e3.trans e6) ?_
    · subst hv
      obtain ⟨d1, d2, d3, d4⟩ := g2
      have dx : ∀ x ∈ u.toL, x.2.size < 90000 ∧ x.2.height + 1 ≤ 43 := fun x hx => by
        obtain ⟨y, hy, n1, n2⟩ := d4 x hx
        have hy' := hS.ok y hy
        have := hy'.sz
        have := hy'.ht
        have := hy'.ln
        exact ⟨by omega, by omega⟩
      exact fun Q E q => ⟨v, w, _, rfl, ⟨u, tot, 1033, g1, g3, d1, height_le_of fun x hx => (dx x hx).2, fun x hx => (dx x hx).1, by omega, htb, rfl⟩, fun v' H' e' ⟨r, a1, a2, a3, _⟩ => q v' H' e' ⟨r, a1, a2, by rw [a3, d2]⟩⟩
    · have : sumT l = r.val := by rw [g3, ← hsum]; omega
      rw [this, ← can_eq g2]
      exact g1
end Sk

set_option Elab.async false
set_option linter.all false
set_option maxRecDepth 100000
set_option maxHeartbeats 1000000
namespace Sk
open PySem L2 Evl
/-! ### multiply -/
def prodR (u : T) (x : Int × T) : List (Int × T) := (shL x.2.val u.toL).map fun y => (x.1 * y.1, y.2)
def prodL (u : T) (l : List (Int × T)) : List (Int × T) := (l.map (prodR u)).flatten
theorem prodL_snoc (u : T) (l : List (Int × T)) (x : Int × T) : prodL u (l ++ [x]) = prodL u l ++ prodR u x := by
  unfold prodL
  rw [List.map_append, List.flatten_append]
  simp
theorem prodR_len (u : T) (x : Int × T) : (prodR u x).length = u.toL.length := by unfold prodR shL; rw [List.length_map, List.length_map]
theorem prodL_len (u : T) : ∀ l : List (Int × T), (prodL u l).length = l.length * u.toL.length
  | [] => by simp [prodL]
  | x :: l => by
    have := prodL_len u l
    unfold prodL at this ⊢
    rw [List.map_cons, List.flatten_cons, List.length_append, prodR_len, this, List.length_cons, Nat.succ_mul]
    omega
theorem prodR_sum (s : Int) (e : T) (he : 0 ≤ e.val) : ∀ l : List (Int × T), (∀ y ∈ l, 0 ≤ y.2.val) → sumT ((shL e.val l).map fun y => (s * y.1, y.2)) = s * 2 ^ e.val.toNat * sumT l
  | [], _ => by
    show (0 : Int) = _ * 0
    rw [Int.mul_zero]
  | y :: l, h => by
    have h1 := prodR_sum s e he l fun z hz => h z (List.mem_cons_of_mem _ hz)
    have hy := h y (List.mem_cons_self ..)
    have h2 : (shL e.val (y :: l)).map (fun y => (s * y.1, y.2)) = (s * y.1, toT (y.2.val + e.val)) :: ((shL e.val l).map fun y => (s * y.1, y.2)) := rfl
    rw [h2, sumT_cons, h1, sumT_cons]
    show s * y.1 * 2 ^ (toT (y.2.val + e.val)).val.toNat + _ = _
    rw [toT_val, Int.toNat_add hy he, Int.pow_add, Int.mul_add]
    congr 1
    rw [Int.mul_assoc s y.1, Int.mul_assoc s (2 ^ e.val.toNat)]
    congr 1
    rw [← Int.mul_assoc, Int.mul_comm (2 ^ e.val.toNat) (y.1 * _)]
theorem prodL_sum {u : T} (hu : ∀ y ∈ u.toL, 0 ≤ y.2.val) : ∀ l : List (Int × T), (∀ x ∈ l, 0 ≤ x.2.val) → sumT (prodL u l) = sumT l * u.val
  | [], _ => by
    show (0 : Int) = 0 * _
    rw [Int.zero_mul]
  | x :: l, h => by
    have h1 := prodL_sum hu l fun z hz => h z (List.mem_cons_of_mem _ hz)
    have h2 : prodL u (x :: l) = prodR u x ++ prodL u l := by unfold prodL; rw [List.map_cons, List.flatten_cons]
    rw [h2, sumT_app, h1, sumT_cons, Int.add_mul]
    congr 1
    unfold prodR
    rw [prodR_sum x.1 x.2 (h x (List.mem_cons_self ..)) u.toL hu, ← sumT_ofL, ofL_toL]
/-- the products of terms -/
theorem er_prod {K : PySem.W.Frag} {H : Hp} {x y : V} {t u : T} (hx : NumV K H x t) (hy : NumV K H y u) (hts : ∀ x ∈ t.toL, x.1 = 1 ∨ x.1 = -1) (ht : ∀ x ∈ t.toL, PlOk x.2) (hu : ∀ y ∈ u.toL, PlOk y.2) (hl : t.toL.length * u.toL.length ≤ 400) (hul : u.toL.length < 90000) :
    ER (tLc2 (iTup K (tVar 0)) (gTup K 2 (gCons (gName 2) (gCons (gName 3) gNil))) tYes (iTup K (tCall (sp_bare_shift K) [] E0 (tCons (tVar 1) (tCons (tVar 3) tNil)))) (gTup K 2 (gCons (gName 4) (gCons (gName 5) gNil))) tYes (tTup (tCons (tOp xMul (tVar 2) (tVar 4)) (tCons (tVar 5) tNil))) [2, 3, 4, 5] [4, 5]) [some x, some y, none, none, none, none] H
      (fun v H2 => ∃ p ys, v = .ref p ∧ H2 p = some (.lst ys) ∧ ItemsR (TermI K) (prodL u t.toL) ys H2) := by
  intro H1 e1 Q q
  obtain ⟨a, xs, rfl, ha0, hxs⟩ := hx.out
  have ha : SqT K H1 a xs := ex_t e1 ha0
  have hit := items_terms (hxs.ex e1)
  have hy1 := hy.ex e1
  refine ⟨_, rfl, a, rfl, ⟨xs, ha⟩, fun D hD => ?_⟩
  let Pv : List (Int × T) → Hp → Prop := fun done H' => H1 D = none ∧ Ex H1 H' ∧ ∃ ys, H' D = some (.lst ys) ∧ ItemsR (TermI K) done ys H'
  refine ⟨fun i m H' => m = xs.length - i ∧ i ≤ xs.length ∧ Pv (prodL u (t.toL.take i)) H', ⟨xs.length, rfl, Nat.zero_le _, hD, Ex.new hD, [], upd_same, .nil⟩, ?_⟩
  rintro i m H' ⟨rfl, hi, p⟩
  obtain ⟨_, e2, ys, hys, hyi⟩ := _root_.id p
  have hsq : SqT K H' a xs := ex_t e2 ha
  by_cases hlt : i < xs.length
  · refine .inr ⟨⟨xs, xs[i], hsq, by simp [hlt]⟩, Pv (prodL u (t.toL.take (i + 1))), fun H'' p' => ⟨xs.length - (i + 1), by omega, rfl, hlt, p'⟩, fun z H'' yv => ?_⟩
    obtain ⟨rfl, yv⟩ := yv
    have hz := yv xs hsq
    obtain ⟨⟨s, e⟩, hse, q0, w, rfl, hq0, hw⟩ := (hit.ex (fun a => (termI a).mono) e2).of_at hz
    have he : PlOk e := ht (s, e) (List.mem_of_getElem? hse)
    have hnx : prodL u (t.toL.take (i + 1)) = prodL u (t.toL.take i) ++ prodR u (s, e) := by rw [take_snoc hse, prodL_snoc]
    refine g_pair hq0 ⟨rfl, ?_⟩
    unfold tYes
    refine iteT ?_
    refine er_call2 (R1 := fun v H => NumV K H v u) (R2 := fun v H => NumV K H v e) (R := fun v H' => NumV K H' v (ofL (shL e.val u.toL))) (er_var rfl fun H3 e3 => hy1.ex (e2.trans e3)) numT.mono (er_var rfl fun H3 e3 => hw.ex e3) numT.mono (fun v w H3 e3 g1 g2 => ⟨u, e, g1, g2, hul, hu, he, rfl⟩) H'' (Ex.refl _) _ fun v H3 e3 hv => ?_
    obtain ⟨b, zs, rfl, hb, htm⟩ := NumV.out hv
    have hzs := items_terms htm
    rw [toL_ofL] at hzs
    refine ⟨b, rfl, ⟨zs, hb⟩, ?_⟩
    have p3 : Pv (prodL u (t.toL.take i)) H3 := ⟨hD, e2.trans e3, ys, e3 D _ hys, hyi.ex (fun a => (termI a).mono) e3⟩
    refine ⟨fun j k H4 => k = zs.length - j ∧ j ≤ zs.length ∧ SqT K H4 b zs ∧ ItemsR (TermI K) (shL e.val u.toL) zs H4 ∧ Pv (prodL u (t.toL.take i) ++ (prodR u (s, e)).take j) H4, ⟨zs.length, rfl, Nat.zero_le _, hb, hzs, by rw [List.take_zero, List.append_nil]; exact p3⟩, ?_⟩
    rintro j k H4 ⟨rfl, hj, hb4, hz4, p4⟩
    obtain ⟨_, e4, us, hus, hui⟩ := _root_.id p4
    by_cases hjt : j < zs.length
    · refine .inr ⟨⟨zs, zs[j], hb4, by simp [hjt]⟩, fun H5 => SqT K H5 b zs ∧ ItemsR (TermI K) (shL e.val u.toL) zs H5 ∧ Pv (prodL u (t.toL.take i) ++ (prodR u (s, e)).take (j + 1)) H5, fun H5 p' => ⟨zs.length - (j + 1), by omega, rfl, hjt, p'⟩, fun z2 H5 yz => ?_⟩
      obtain ⟨rfl, yz⟩ := yz
      obtain ⟨⟨s2, e2'⟩, hse2, q2, w2, rfl, hq2, hw2⟩ := hz4.of_at (yz zs hb4)
      refine g_pair hq2 ⟨rfl, ?_⟩
      refine iteT ?_
      have hpr : (prodR u (s, e))[j]? = some (s * s2, e2') := by
        unfold prodR
        rw [List.getElem?_map, hse2]; rfl
      refine er_term (s := s * s2) (e := e2') (ev_mul (ev_var rfl) (ev_var rfl) ?_) (er_var rfl fun H6 e6 => hw2.ex e6) H5 (Ex.refl _) _ fun v H6 e6 hv => ?_
      · rcases hts (s, e) (List.mem_of_getElem? hse) with h | h <;> (have h' : s = _ := h; rw [h']; exact .inl (by decide))
      · have hle : us.length ≤ 400 := by
          rw [hui.1, List.length_append, List.length_take, prodL_len, prodR_len, List.length_take]
          have hi2 : i < t.toL.length := by rw [← hit.1]; exact hlt
          have h3 : (i + 1) * u.toL.length ≤ t.toL.length * u.toL.length := Nat.mul_le_mul_right _ hi2
          rw [Nat.min_eq_left (Nat.le_of_lt hi2)]
          rw [Nat.succ_mul] at h3
          omega
        have h6 : H6 D = some (.lst us) := e6 D _ hus
        have t6 : TEx H6 (upd H6 D (.lst (us ++ [v]))) := TEx.put h6
        refine ⟨us, h6, sz_lt (by omega), tex_sqt ((Ex.t e6).trans t6) hb4, hz4.tex termI ((Ex.t e6).trans t6), hD, Ex.mut (e4.trans e6) hD, us ++ [v], upd_same, ?_⟩
        rw [take_snoc hpr, ← List.append_assoc]
        exact (hui.tex termI ((Ex.t e6).trans t6)).snoc (termI _ _ _ _ t6 hv)
    · have hj' : j = zs.length := by omega
      subst hj'
      refine .inl ⟨⟨zs, hb4, Nat.le_refl _⟩, ?_⟩
      show Pv _ H4
      rw [hnx]
      have : (prodR u (s, e)).take zs.length = prodR u (s, e) := by rw [hz4.1]; refine List.take_of_length_le ?_; unfold prodR; rw [List.length_map]; exact Nat.le_refl _
      rw [this] at p4
      exact p4
  · have hi' : i = xs.length := by omega
    subst hi'
    have : t.toL.take xs.length = t.toL := by rw [hit.1]; exact List.take_length
    rw [this] at hyi
    exact .inl ⟨⟨xs, hsq, Nat.le_refl _⟩, q _ H' e2 ⟨D, ys, rfl, hys, hyi⟩⟩
def pMul (K : PySem.W.Frag) (CL : Addr) : V → V → Hp → VP → WP → Prop := fun x y H R W => ∃ (t u : T), NumV K H x t ∧ NumV K H y u ∧ t.can ∧ u.can ∧ t.toL.length ≤ 1000 ∧ u.toL.length ≤ 1000 ∧ (∀ x ∈ t.toL, PlOk x.2) ∧ (∀ x ∈ u.toL, PlOk x.2) ∧ (400 < t.toL.length * u.toL.length → W CL) ∧
  (t.toL.length * u.toL.length ≤ 400 → (∀ x ∈ t.toL, ∀ y ∈ u.toL, SmOk (toT (y.2.val + x.2.val))) ∧ (toT (t.val * u.val)).szk ∧ ((toT (t.val * u.val)).fits → ∀ v H', NumV K H' v (toT (t.val * u.val)) → R v H') ∧ (¬ (toT (t.val * u.val)).fits → W CL))
def sp_multiply (K : PySem.W.Frag) (CL : Addr) : Sp := spX2 K (pMul K CL)
def t_multiply (K : PySem.W.Frag) (a_TooLarge : Addr) (E : XK) : TS := (tSeq (tIfS (tTest (tOp xGt (tOp xMul (tCB (rLenS K) (tCons (tVar 0) tNil)) (tCB (rLenS K) (tCons (tVar 1) tNil))) (tC (.int 400)))) (tRaise K E a_TooLarge) tNext)
    (tRet (tCall (sp_allowed K a_TooLarge) [] E (tCons (tCall (sp_bare_sum K) [] E0 (tCons (tLc2 (iTup K (tVar 0)) (gTup K 2 (gCons (gName 2) (gCons (gName 3) gNil))) tYes (iTup K (tCall (sp_bare_shift K) [] E0 (tCons (tVar 1) (tCons (tVar 3) tNil)))) (gTup K 2 (gCons (gName 4) (gCons (gName 5) gNil))) tYes (tTup (tCons (tOp xMul (tVar 2) (tVar 4)) (tCons (tVar 5) tNil))) [2, 3, 4, 5] [4, 5]) tNil)) tNil))))
theorem prodL_mem {u : T} {l : List (Int × T)} {z : Int × T} (h : z ∈ prodL u l) : ∃ x ∈ l, ∃ y ∈ u.toL, z = (x.1 * y.1, toT (y.2.val + x.2.val)) := by
  unfold prodL at h
  obtain ⟨r, hr, hz⟩ := List.mem_flatten.mp h
  obtain ⟨x, hx, rfl⟩ := List.mem_map.mp hr
  unfold prodR shL at hz
  obtain ⟨y', hy', rfl⟩ := List.mem_map.mp hz
  obtain ⟨y, hy, rfl⟩ := List.mem_map.mp hy'
  exact ⟨x, hx, y, hy, rfl⟩
theorem pure_multiply {K : PySem.W.Frag} {CL : Addr} {vs : List V} {H : Hp} {Q : VK} {E : XK} (h : sp_multiply K CL vs H Q E) : t_multiply K CL E { nx := fun _ H' => Q .non H', rt := Q } (start ["first", "second", "sign", "exponent", "other", "place"] vs) H := by
  obtain ⟨x, y, R, W, rfl, ⟨t, u, hx, hy, ht, hu, hl1, hl2, hok1, hok2, hbig, hmain⟩, k, kE⟩ := h
  obtain ⟨a, xs, rfl, ha, hxs⟩ := hx.out
  obtain ⟨b, ys, rfl, hb, hys⟩ := hy.out
  have lx := hxs.len
  have ly := hys.len
  refine q_when (b := decide ((400 : Int) < ((t.toL.length * u.toL.length : Nat) : Int))) (et_test (ev_is (ev_gt (ev_mul (ev_lenT (ev_var rfl) ha) (ev_lenT (ev_var rfl) hb) (.inl (by constructor <;> omega))) ev_c) (by rw [lx, ly, Int.natCast_mul]))) (fun hc H1 e1 => ?_) (fun hc H1 e1 => ?_)
  · exact (fun Hz ez => kE CL Hz (e1.trans ez) (hbig (by have := of_decide_eq_true hc; omega)))
  have hle : t.toL.length * u.toL.length ≤ 400 := by have := of_decide_eq_false hc; omega
  obtain ⟨hsm, hsz, hR, hW⟩ := hmain hle
  have hval : sumT (prodL u t.toL) = t.val * u.val := by
    rw [prodL_sum (fun y hy => (can_toL hu y hy).2.1) t.toL fun x hx => (can_toL ht x hx).2.1, ← sumT_ofL, ofL_toL]
  refine x_call1 (R1 := fun v H => NumV K H v (toT (t.val * u.val))) (er_call1 (R1 := fun v H' => ∃ p ys, v = .ref p ∧ H' p = some (.lst ys) ∧ ItemsR (TermI K) (prodL u t.toL) ys H') (er_prod (hx.ex e1) (hy.ex e1) (fun x hx => (can_toL ht x hx).1) hok1 hok2 hle (by omega)) (fun v Ha Hb e ⟨p, ys, g1, g2, g3⟩ => ⟨p, ys, g1, e p _ g2, g3.ex (fun a => (termI a).mono) e⟩) fun v H2 e2 ⟨p, ys, g1, g2, g3⟩ => ⟨p, ys, prodL u t.toL, g1, g2, g3, by rw [prodL_len]; exact hle, fun z hz => ?_, by rw [hval]⟩) numT.mono _ fun v H2 e2 g => ⟨R, W, ⟨_, g, hsz, hR, hW⟩, fun w H3 e3 hw => k w H3 (e1.trans (e2.trans e3)) hw, fun C H3 e3 hC => kE C H3 (e1.trans (e2.trans e3)) hC⟩
  obtain ⟨x, hx', y, hy', rfl⟩ := prodL_mem hz
  have h1 := (can_toL ht x hx').1
  have h2 := (can_toL hu y hy').1
  refine ⟨?_, hsm x hx' y hy'⟩
  rcases h1 with h1 | h1 <;> rcases h2 with h2 | h2 <;> simp [h1, h2]
end Sk

set_option Elab.async false
set_option linter.all false
set_option maxRecDepth 100000
set_option maxHeartbeats 1000000
namespace Sk
open PySem L2 Evl
/-! ### sum_terms -/
def TmOk (l : List (Int × T)) : Prop := ∀ x ∈ l, (x.1 = 1 ∨ x.1 = -1) ∧ 0 ≤ x.2.val
def pSumTerms (K : PySem.W.Frag) (CN CL : Addr) : V → Hp → VP → WP → Prop := fun x H R W => ∃ (p : Addr) (ys : List V) (l : List (Int × T)), x = .ref p ∧ H p = some (.lst ys) ∧ ItemsR (TermI K) l ys H ∧ (∀ x ∈ l, x.2.can) ∧ (¬ TmOk l → W CN) ∧ (TmOk l → 400 < l.length → W CL) ∧
  (TmOk l → l.length ≤ 400 → (∀ x ∈ l, SmOk x.2) ∧ (toT (sumT l)).szk ∧ ((toT (sumT l)).fits → ∀ v H', NumV K H' v (toT (sumT l)) → R v H') ∧ (¬ (toT (sumT l)).fits → W CL))
def sp_sum_terms (K : PySem.W.Frag) (CN CL : Addr) : Sp := spX1 K (pSumTerms K CN CL)
def t_sum_terms (K : PySem.W.Frag) (a_NotAllowed : Addr) (a_TooLarge : Addr) (E : XK) : TS := (tSeq (tFor (iList K (tVar 0)) (gTup K 2 (gCons (gName 1) (gCons (gName 2) gNil))) (tIfS (tOr (tTest (tOp (rIn K true) (tVar 1) (tTup (tCons (tC (.int 1)) (tCons (tUn xNeg (tC (.int 1))) tNil))))) (tTest (tOp xLt (tCall (sp_sign_of K) [] E0 (tCons (tVar 2) tNil)) (tC (.int 0))))) (tRaise K E a_NotAllowed) tNext))
    (tSeq (tIfS (tTest (tOp xGt (tCB (rLenS K) (tCons (tVar 0) tNil)) (tC (.int 400)))) (tRaise K E a_TooLarge) tNext)
    (tRet (tCall (sp_allowed K a_TooLarge) [] E (tCons (tCall (sp_bare_sum K) [] E0 (tCons (tVar 0) tNil)) tNil)))))
theorem pure_sum_terms {K : PySem.W.Frag} {CN CL : Addr} {vs : List V} {H : Hp} {Q : VK} {E : XK} (h : sp_sum_terms K CN CL vs H Q E) : t_sum_terms K CN CL E { nx := fun _ H' => Q .non H', rt := Q } (start ["terms", "sign", "exponent"] vs) H := by
  obtain ⟨x, R, W, rfl, ⟨p, ys, l, rfl, hp, hit, hcan, hN, hL, hM⟩, k, kE⟩ := h
  have hyl : ys.length = l.length := hit.1
  refine q_forL (xs := ys) (ev_var rfl) (sq_of hp) (fun i σ H' => ∃ z1 z2, σ = [some (.ref p), z1, z2] ∧ Ex H H' ∧ TmOk (l.take i)) (fun H1 e1 => ⟨none, none, rfl, e1, fun x hx => by cases hx⟩) (fun i σ' H' _ ⟨_, _, _, e, _⟩ => sq_of (e p _ hp)) ?_ ?_
  · rintro i y σ' H' hy ⟨z1, z2, rfl, e1, hok⟩
    obtain ⟨⟨s, e⟩, hget, q, w, rfl, hq, hw⟩ := hit.of_at hy
    have hm := List.mem_of_getElem? hget
    have hc : e.can := hcan (s, e) hm
    have hsg := can_sgn hc
    refine g_pair (ex_t e1 hq) ?_
    refine s_when (b := (!decide (s = 1 ∨ s = -1)) || decide (e.sgn < 0)) (et_or (et_test (ev_signIn rfl)) fun _ => et_test (ev_lt (ev_er (er_call1 (R1 := fun v H => NumV K H v e) (er_var rfl fun H2 e2 => hw.ex (e1.trans e2)) numT.mono fun v H2 e2 g => ⟨_, g, rfl⟩)) ev_c)) (fun hb H2 e2 => ?_) (fun hb H2 e2 => ?_)
    · refine (fun Hz ez => kE CN Hz ((e1.trans e2).trans ez) (hN fun h => ?_))
      obtain ⟨h1, h2⟩ := h (s, e) hm
      have h1 : s = 1 ∨ s = -1 := h1
      have h2 : 0 ≤ e.val := h2
      rw [decide_eq_true h1, decide_eq_false (by omega)] at hb
      cases hb
    · refine ⟨_, _, rfl, e1.trans e2, fun x hx => ?_⟩
      rw [take_snoc hget] at hx
      rcases List.mem_append.mp hx with k1 | k1
      · exact hok x k1
      · rw [List.mem_singleton.mp k1]
        rw [Bool.or_eq_false_iff, Bool.not_eq_false', decide_eq_true_eq, decide_eq_false_iff_not] at hb
        exact ⟨hb.1, by show 0 ≤ e.val; have := hb.2; omega⟩
  · rintro σ' H' ⟨z1, z2, rfl, e1, hok⟩
    rw [hyl, List.take_length] at hok
    refine q_when (et_test (ev_gt (ev_lenL (ev_var rfl) (sq_of (e1 p _ hp))) ev_c)) (fun hb H2 e2 => ?_) (fun hb H2 e2 => ?_)
    · exact (fun Hz ez => kE CL Hz ((e1.trans e2).trans ez) (hL hok (by have := of_decide_eq_true hb; omega)))
    obtain ⟨m1, m2, m3, m4⟩ := hM hok (by have := of_decide_eq_false hb; omega)
    have e12 := e1.trans e2
    exact x_call1 (R1 := fun v H => NumV K H v (toT (sumT l))) (er_call1 (R1 := fun v H' => v = .ref p ∧ H' p = some (.lst ys) ∧ ItemsR (TermI K) l ys H') (er_var rfl fun H3 e3 => ⟨rfl, (e12.trans e3) p _ hp, hit.ex (fun a => (termI a).mono) (e12.trans e3)⟩) (fun v Ha Hb e ⟨g1, g2, g3⟩ => ⟨g1, e p _ g2, g3.ex (fun a => (termI a).mono) e⟩) fun v H3 e3 ⟨g1, g2, g3⟩ => ⟨p, ys, l, g1, g2, g3, by have := of_decide_eq_false hb; omega, fun x hx => ⟨(hok x hx).1, m1 x hx⟩, rfl⟩) numT.mono _ fun v H3 e3 g => ⟨R, W, ⟨_, g, m2, m3, m4⟩, fun w H4 e4 hw => k w H4 (e12.trans (e3.trans e4)) hw, fun C H4 e4 hC => kE C H4 (e12.trans (e3.trans e4)) hC⟩
end Sk

set_option Elab.async false
set_option linter.all false
set_option maxRecDepth 100000
set_option maxHeartbeats 1000000
namespace Sk
/-! ### sizes of sums of up to three powers -/
def SS (p : Nat) : Int := ((toT (p : Int)).size : Int)
def FF (n : Int) (p : Nat) : Int := ((naf n p).map fun x => SS x.2).sum
theorem FF_zero (p : Nat) : FF 0 p = 0 := by unfold FF; rw [naf_zero]; rfl
theorem FF_even {n : Int} (h : n % 2 = 0) (p : Nat) : FF n p = FF (n / 2) (p + 1) := by unfold FF; rw [naf_even h]
theorem FF_odd {n : Int} (h : n % 2 = 1) (p : Nat) : FF n p = SS p + FF ((n - (2 - n % 4)) / 2) (p + 1) := by unfold FF; rw [naf_odd h, List.map_cons, List.sum_cons]
theorem size_FF (n : Int) : ((toT n).size : Int) = 1 + FF n 0 := by
  rw [size_toT, List.map_map]
  have h : ∀ l : List (Int × Nat), (((l.map ((fun p : Nat => (toT (p : Int)).size) ∘ fun x => x.2)).sum : Nat) : Int) = (l.map fun x => SS x.2).sum := by
    intro l
    induction l with
    | nil => rfl
    | cons x l ih => rw [List.map_cons, List.map_cons, List.sum_cons, List.sum_cons, ← ih]; rfl
  have := h (naf n 0)
  unfold FF
  omega
theorem SS_pos (p : Nat) : 1 ≤ SS p := by
  have h := size_FF (p : Int)
  have h0 : ∀ l : List (Int × Nat), 0 ≤ (l.map fun x => SS x.2).sum := by
    intro l
    induction l with
    | nil => exact Int.le_refl _
    | cons x l ih => rw [List.map_cons, List.sum_cons]; have : 0 ≤ SS x.2 := Int.natCast_nonneg _; omega
  have := h0 (naf (p : Int) 0)
  unfold FF at h
  show 1 ≤ ((toT (p : Int)).size : Int)
  omega
/-- one more: how much the places' sizes may grow -/
def BE : Nat → Nat → Int
  | 0, p => SS p
  | t + 1, p => max (SS p) (SS p + max (-SS (p + 1)) (-SS (p + 1) + BE t (p + 2)))
def BO : Nat → Nat → Int
  | 0, _ => 0
  | t + 1, p => max (-SS p) (-SS p + BE t (p + 1))
theorem grow : ∀ (t : Nat), (∀ (p : Nat) (n : Int), (naf n p).length ≤ t → n % 2 = 1 → FF (n + 1) p ≤ FF n p + BO t p) ∧ (∀ (p : Nat) (n : Int), (naf n p).length ≤ t → n % 2 = 0 → FF (n + 1) p ≤ FF n p + BE t p) := by
  intro t
  induction t with
  | zero =>
    refine ⟨fun p n hl h => ?_, fun p n hl h => ?_⟩
    · rw [naf_odd h] at hl; cases hl
    · have h4 : n % 4 = 0 ∨ n % 4 = 2 := by omega
      rcases h4 with q | q
      · rw [FF_odd (n := n + 1) (by omega), FF_even h, show (n + 1 - (2 - (n + 1) % 4)) / 2 = n / 2 by omega]
        show _ ≤ _ + SS p
        omega
      · rw [naf_even h, naf_odd (by omega)] at hl; cases hl
  | succ t ih =>
    have odd : ∀ (p : Nat) (n : Int), (naf n p).length ≤ t + 1 → n % 2 = 1 → FF (n + 1) p ≤ FF n p + BO (t + 1) p := by
      intro p n hl h
      rw [naf_odd h, List.length_cons] at hl
      have h4 : n % 4 = 1 ∨ n % 4 = 3 := by omega
      rw [FF_odd h, FF_even (n := n + 1) (by omega)]
      show _ ≤ _ + max (-SS p) (-SS p + BE t (p + 1))
      rcases h4 with q | q
      · have e1 : (n - (2 - n % 4)) / 2 = (n - 1) / 2 := by omega
        have e2 : (n + 1) / 2 = (n - 1) / 2 + 1 := by omega
        rw [e1] at hl ⊢
        have := ih.2 (p + 1) ((n - 1) / 2) (by omega) (by omega)
        rw [e2]
        omega
      · rw [show (n - (2 - n % 4)) / 2 = (n + 1) / 2 by omega]
        omega
    refine ⟨odd, fun p n hl h => ?_⟩
    show _ ≤ _ + max (SS p) (SS p + max (-SS (p + 1)) (-SS (p + 1) + BE t (p + 2)))
    have h4 : n % 4 = 0 ∨ n % 4 = 2 := by omega
    rw [FF_odd (n := n + 1) (by omega), FF_even h]
    rcases h4 with q | q
    · rw [show (n + 1 - (2 - (n + 1) % 4)) / 2 = n / 2 by omega]
      omega
    · rw [naf_even h] at hl
      have := odd (p + 1) (n / 2) hl (by omega)
      rw [show (n + 1 - (2 - (n + 1) % 4)) / 2 = n / 2 + 1 by omega]
      have e : BO (t + 1) (p + 1) = max (-SS (p + 1)) (-SS (p + 1) + BE t (p + 2)) := rfl
      rw [e] at this
      omega
theorem SS_tb (p : Nat) (h : p < 14) : SS p = (tb.getD p 0 : Nat) := by rw [tb_eq p h]; rfl
theorem wt_p (n : Int) (p : Nat) : (naf n p).length = wt n := naf_len_p _ n p 0 (Nat.le_refl _)
theorem SS_succ {e : Nat} (h : wt (e : Int) ≤ 4) : SS (e + 1) ≤ SS e + 4 := by
  have h0 : SS 0 = 1 := SS_tb 0 (by decide)
  have h1 : SS 1 = 2 := SS_tb 1 (by decide)
  have h2 : SS 2 = 3 := SS_tb 2 (by decide)
  have h3 : SS 3 = 5 := SS_tb 3 (by decide)
  have h4 : SS 4 = 4 := SS_tb 4 (by decide)
  have h5 : SS 5 = 5 := SS_tb 5 (by decide)
  have h6 : SS 6 = 8 := SS_tb 6 (by decide)
  have h7 : SS 7 = 7 := SS_tb 7 (by decide)
  have h8 : SS 8 = 6 := SS_tb 8 (by decide)
  have b0 : BE 0 8 = 6 := by show SS 8 = 6; exact h8
  have b0' : BE 0 7 = 7 := by show SS 7 = 7; exact h7
  have b1 : BE 1 6 = 8 := by show max (SS 6) (SS 6 + max (-SS 7) (-SS 7 + BE 0 8)) = 8; rw [h6, h7, b0] <;> decide
  have b2 : BE 2 4 = 7 := by show max (SS 4) (SS 4 + max (-SS 5) (-SS 5 + BE 1 6)) = 7; rw [h4, h5, b1] <;> decide
  have b3 : BE 3 2 = 5 := by show max (SS 2) (SS 2 + max (-SS 3) (-SS 3 + BE 2 4)) = 5; rw [h2, h3, b2] <;> decide
  have b4 : BE 4 0 = 4 := by show max (SS 0) (SS 0 + max (-SS 1) (-SS 1 + BE 3 2)) = 4; rw [h0, h1, b3] <;> decide
  have c1 : BE 1 5 = 5 := by show max (SS 5) (SS 5 + max (-SS 6) (-SS 6 + BE 0 7)) = 5; rw [h5, h6, b0'] <;> decide
  have c2 : BE 2 3 = 6 := by show max (SS 3) (SS 3 + max (-SS 4) (-SS 4 + BE 1 5)) = 6; rw [h3, h4, c1] <;> decide
  have c3 : BE 3 1 = 5 := by show max (SS 1) (SS 1 + max (-SS 2) (-SS 2 + BE 2 3)) = 5; rw [h1, h2, c2] <;> decide
  have o4 : BO 4 0 = 4 := by show max (-SS 0) (-SS 0 + BE 3 1) = 4; rw [h0, c3] <;> decide
  have hl : (naf (e : Int) 0).length ≤ 4 := h
  have hs : SS (e + 1) = 1 + FF ((e : Int) + 1) 0 := by have := size_FF ((e : Int) + 1); unfold SS; rw [show (((e + 1 : Nat)) : Int) = (e : Int) + 1 by omega]; exact this
  have he : SS e = 1 + FF (e : Int) 0 := size_FF _
  rcases Int.emod_two_eq (e : Int) with q | q
  · have := (grow 4).2 0 (e : Int) hl q
    omega
  · have := (grow 4).1 0 (e : Int) hl q
    omega
end Sk

set_option Elab.async false
set_option linter.all false
set_option maxRecDepth 100000
set_option maxHeartbeats 1000000
namespace Sk
/-! ### what a sum's places may weigh -/
def FW (w : Nat → Int) (n : Int) (p : Nat) : Int := ((naf n p).map fun x => w x.2).sum
def mw (w : Nat → Int) (q : Nat) : Int := max (w q) (w (q + 1))
section
variable {w : Nat → Int}
theorem FW_zero (p : Nat) : FW w 0 p = 0 := by unfold FW; rw [naf_zero]; rfl
theorem FW_even {n : Int} (h : n % 2 = 0) (p : Nat) : FW w n p = FW w (n / 2) (p + 1) := by unfold FW; rw [naf_even h]
theorem FW_odd {n : Int} (h : n % 2 = 1) (p : Nat) : FW w n p = w p + FW w ((n - (2 - n % 4)) / 2) (p + 1) := by unfold FW; rw [naf_odd h, List.map_cons, List.sum_cons]
theorem FW_mono {w' : Nat → Int} (h : ∀ q, w q ≤ w' q) (n : Int) (p : Nat) : FW w n p ≤ FW w' n p := by
  unfold FW
  induction naf n p with
  | nil => exact Int.le_refl _
  | cons x l ih => rw [List.map_cons, List.sum_cons, List.map_cons, List.sum_cons]; have := h x.2; omega
theorem FW_nn (h : ∀ q, 0 ≤ w q) (n : Int) (p : Nat) : 0 ≤ FW w n p := by
  unfold FW
  induction naf n p with
  | nil => exact Int.le_refl _
  | cons x l ih => rw [List.map_cons, List.sum_cons]; have := h x.2; omega
theorem le_mw (q : Nat) : w q ≤ mw w q ∧ w (q + 1) ≤ mw w q := by unfold mw; omega
theorem FW_pm {s : Int} (h : s = 1 ∨ s = -1) (p : Nat) : FW w s p = w p := by
  rcases h with rfl | rfl
  · rw [FW_odd (by decide), show ((1 : Int) - (2 - 1 % 4)) / 2 = 0 by decide, FW_zero, Int.add_zero]
  · rw [FW_odd (by decide), show ((-1 : Int) - (2 - (-1) % 4)) / 2 = 0 by decide, FW_zero, Int.add_zero]
/-- an odd number's sign, and the rest, which is even -/
theorem odd_cut {n : Int} (h : n % 2 = 1) : ∃ s m : Int, (s = 1 ∨ s = -1) ∧ n = s + 4 * m ∧ (n - (2 - n % 4)) / 2 = 2 * m ∧ m.natAbs + m.natAbs ≤ n.natAbs ∧ m.natAbs < n.natAbs := by
  rcases (show n % 4 = 1 ∨ n % 4 = 3 by omega) with q | q
  · exact ⟨1, (n - 1) / 4, .inl rfl, by omega, by omega, by omega, by omega⟩
  · exact ⟨-1, (n + 1) / 4, .inr rfl, by omega, by omega, by omega, by omega⟩
theorem FW_cut {s m : Int} (h : s = 1 ∨ s = -1) (p : Nat) : FW w (s + 4 * m) p = w p + FW w (2 * m) (p + 1) := by
  rw [FW_odd (by omega)]
  congr 2
  rcases h with rfl | rfl <;> omega
theorem FW_dbl (m : Int) (p : Nat) : FW w (2 * m) p = FW w m (p + 1) := by rw [FW_even (by omega), show 2 * m / 2 = m by omega]
theorem addW (hw : ∀ q, 0 ≤ w q) : ∀ (k : Nat) (a b : Int), a.natAbs + b.natAbs ≤ k → ∀ p : Nat, FW w (a + b) p ≤ FW (mw w) a p + FW (mw w) b p ∧
    ∀ c : Int, (c = 1 ∨ c = -1) → ¬ (a % 2 = 1 ∧ b % 2 = 1) → FW w (a + b + c) p ≤ FW (mw w) a p + FW (mw w) b p + w p ∧ ((a + b + c) % 2 = 0 → FW w (a + b + c) p ≤ FW (mw w) a p + FW (mw w) b p) := by
  intro k
  induction k with
  | zero =>
    intro a b h p
    have ha : a = 0 := by omega
    have hb : b = 0 := by omega
    subst ha hb
    rw [FW_zero]
    refine ⟨by rw [show (0 : Int) + 0 = 0 from rfl, FW_zero]; decide, fun c hc _ => ⟨?_, fun h => by omega⟩⟩
    rw [show (0 : Int) + 0 + c = c by omega, FW_pm hc]
    have := hw p
    omega
  | succ k ih =>
    -- one odd, one even
    have one : ∀ a b : Int, a.natAbs + b.natAbs ≤ k + 1 → a % 2 = 1 → b % 2 = 0 → ∀ p, FW w (a + b) p ≤ FW (mw w) a p + FW (mw w) b p ∧ ∀ c : Int, (c = 1 ∨ c = -1) → FW w (a + b + c) p ≤ FW (mw w) a p + FW (mw w) b p := by
      intro a b h ha hb p
      obtain ⟨s, m, hs, hm, _, h1, h2⟩ := odd_cut ha
      have hb2 : b = 2 * (b / 2) := by omega
      have hle : (2 * m).natAbs + (b / 2).natAbs ≤ k := by omega
      have i1 := ih (2 * m) (b / 2) hle (p + 1)
      have eA : FW (mw w) a p = mw w p + FW (mw w) (2 * m) (p + 1) := by rw [hm, FW_cut hs]
      have eB : FW (mw w) b p = FW (mw w) (b / 2) (p + 1) := FW_even hb p
      have hmw := le_mw (w := w) p
      rw [eA, eB]
      refine ⟨?_, fun c hc => ?_⟩
      · obtain ⟨d, r, hd, hr, er, _, _⟩ := odd_cut (n := a + b) (by omega)
        rw [FW_odd (by omega), er]
        by_cases hds : d = s
        · have : 2 * r = 2 * m + b / 2 := by omega
          rw [this]
          have := i1.1
          omega
        · have e : 2 * r = 2 * m + b / 2 + s := by omega
          rw [e]
          have := (i1.2 s hs (by omega)).2 (by omega)
          omega
      · have e : (a + b + c) / 2 = 2 * m + b / 2 + (s + c) / 2 := by omega
        rw [FW_even (by omega), e]
        have hc2 : (s + c) / 2 = 0 ∨ ((s + c) / 2 = 1 ∨ (s + c) / 2 = -1) := by omega
        have hn := hw (p + 1)
        have hn' := hw p
        rcases hc2 with q | q
        · rw [q, Int.add_zero]
          have := i1.1
          omega
        · have := (i1.2 _ q (by omega)).1
          omega
    intro a b h p
    rcases (show a % 2 = 0 ∨ a % 2 = 1 by omega) with ha | ha <;> rcases (show b % 2 = 0 ∨ b % 2 = 1 by omega) with hb | hb
    · -- both even
      by_cases hz : a = 0 ∧ b = 0
      · obtain ⟨rfl, rfl⟩ := hz
        rw [FW_zero]
        refine ⟨by rw [show (0 : Int) + 0 = 0 from rfl, FW_zero]; decide, fun c hc _ => ⟨?_, fun h => by omega⟩⟩
        rw [show (0 : Int) + 0 + c = c by omega, FW_pm hc]
        omega
      have hle : (a / 2).natAbs + (b / 2).natAbs ≤ k := by omega
      have i1 := ih (a / 2) (b / 2) hle (p + 1)
      have eA : FW (mw w) a p = FW (mw w) (a / 2) (p + 1) := FW_even ha p
      have eB : FW (mw w) b p = FW (mw w) (b / 2) (p + 1) := FW_even hb p
      rw [eA, eB]
      refine ⟨?_, fun c hc _ => ⟨?_, fun h => by omega⟩⟩
      · rw [FW_even (by omega), show (a + b) / 2 = a / 2 + b / 2 by omega]
        exact i1.1
      · obtain ⟨d, r, hd, hr, er, _, _⟩ := odd_cut (n := a + b + c) (by omega)
        rw [FW_odd (by omega), er]
        by_cases hds : d = c
        · have e : 2 * r = a / 2 + b / 2 := by omega
          rw [e]
          have := i1.1
          omega
        · have e : 2 * r = a / 2 + b / 2 + c := by omega
          rw [e]
          have := (i1.2 c hc (by omega)).2 (by omega)
          omega
    · have o := one b a (by omega) hb ha p
      have hn := hw p
      refine ⟨by rw [Int.add_comm a b]; have := o.1; omega, fun c hc _ => ?_⟩
      have := o.2 c hc
      rw [Int.add_comm a b]
      exact ⟨by omega, fun _ => by omega⟩
    · have o := one a b h ha hb p
      have hn := hw p
      refine ⟨o.1, fun c hc _ => ?_⟩
      have := o.2 c hc
      exact ⟨by omega, fun _ => by omega⟩
    · -- both odd
      refine ⟨?_, fun c hc hno => absurd ⟨ha, hb⟩ hno⟩
      obtain ⟨s, m, hs, hm, _, h1, h2⟩ := odd_cut ha
      obtain ⟨t, r, ht, hr, _, h3, h4⟩ := odd_cut hb
      have eA : FW (mw w) a p = mw w p + FW (mw w) (2 * m) (p + 1) := by rw [hm, FW_cut hs]
      have eB : FW (mw w) b p = mw w p + FW (mw w) (2 * r) (p + 1) := by rw [hr, FW_cut ht]
      have i1 := ih (2 * m) (2 * r) (by omega) (p + 1)
      have hmw := le_mw (w := w) p
      have hn := hw (p + 1)
      have hn' := hw p
      rw [eA, eB, FW_even (by omega), show (a + b) / 2 = 2 * m + 2 * r + (s + t) / 2 by omega]
      have hc2 : (s + t) / 2 = 0 ∨ ((s + t) / 2 = 1 ∨ (s + t) / 2 = -1) := by omega
      rcases hc2 with q | q
      · rw [q, Int.add_zero]
        have := i1.1
        omega
      · have := (i1.2 _ q (by omega)).1
        omega
/-- the sum's places are those of the two, or one above -/
theorem add_place (a b : Int) (P : Nat → Prop) (ha : ∀ x ∈ naf a 0, P x.2 ∧ P (x.2 + 1)) (hb : ∀ x ∈ naf b 0, P x.2 ∧ P (x.2 + 1)) : ∀ x ∈ naf (a + b) 0, P x.2 := by
  intro x hx
  have hz : ∀ l : List (Int × Nat), (∀ x ∈ l, P x.2 ∧ P (x.2 + 1)) → (l.map fun x => mw (fun q => @ite Int (P q) (Classical.propDecidable _) 0 1) x.2).sum = 0 := by
    intro l
    induction l with
    | nil => intro _; rfl
    | cons y l ih =>
      intro h
      rw [List.map_cons, List.sum_cons, ih fun z hz => h z (List.mem_cons_of_mem _ hz)]
      obtain ⟨h1, h2⟩ := h y List.mem_cons_self
      show max (@ite Int (P y.2) (Classical.propDecidable _) 0 1) (@ite Int (P (y.2 + 1)) (Classical.propDecidable _) 0 1) + 0 = 0
      rw [if_pos h1, if_pos h2]
      rfl
  have h0 := (addW (w := fun q => @ite Int (P q) (Classical.propDecidable _) 0 1) (fun q => by split <;> decide) _ a b (Nat.le_refl _) 0).1
  unfold FW at h0
  rw [hz _ ha, hz _ hb] at h0
  have hpos : ∀ l : List (Int × Nat), x ∈ l → ¬ P x.2 → 1 ≤ (l.map fun x => @ite Int (P x.2) (Classical.propDecidable _) 0 1).sum := by
    intro l
    induction l with
    | nil => intro h; cases h
    | cons y l ih =>
      intro h hn
      have hnn : 0 ≤ (l.map fun x => @ite Int (P x.2) (Classical.propDecidable _) 0 1).sum := by
        clear ih h
        induction l with
        | nil => exact Int.le_refl _
        | cons z l ih => rw [List.map_cons, List.sum_cons]; split <;> omega
      rw [List.map_cons, List.sum_cons]
      rcases List.mem_cons.mp h with rfl | h
      · rw [if_neg hn]; omega
      · have := ih h hn
        split <;> omega
  refine Classical.byContradiction fun hn => ?_
  have h5 := hpos _ hx hn
  have h6 : ((naf (a + b) 0).map fun x => (fun q => @ite Int (P q) (Classical.propDecidable _) 0 1) x.2).sum = ((naf (a + b) 0).map fun x => @ite Int (P x.2) (Classical.propDecidable _) 0 1).sum := rfl
  rw [h6] at h0
  omega
end
/-! ### sizes -/
theorem FF_FW (n : Int) (p : Nat) : FF n p = FW SS n p := rfl
theorem SS_nn (q : Nat) : 0 ≤ SS q := Int.natCast_nonneg _
theorem FW_lin (c : Int) (w : Nat → Int) (n : Int) (p : Nat) : FW (fun q => c * w q) n p = c * FW w n p := by
  unfold FW
  induction naf n p with
  | nil => exact (Int.mul_zero c).symm
  | cons x l ih => rw [List.map_cons, List.sum_cons, List.map_cons, List.sum_cons, Int.mul_add, ih]
/-- a number and the next one -/
theorem SS_dbl : ∀ (k q : Nat), q ≤ k → SS (q + 1) ≤ 2 * SS q
  | 0, q, h => by
    have : q = 0 := by omega
    subst this
    rw [SS_tb 0 (by decide), SS_tb 1 (by decide)]; decide
  | k + 1, q, h => by
    have h1 : SS (q + 1) = 1 + FF ((q : Int) + 1) 0 := by rw [← size_FF]; show ((toT ((q + 1 : Nat) : Int)).size : Int) = _; rw [Int.natCast_add]; rfl
    have h2 : SS q = 1 + FF (q : Int) 0 := size_FF (q : Int)
    have h3 := ((addW (w := SS) SS_nn _ (q : Int) 0 (Nat.le_refl _) 0).2 1 (.inl rfl) (by omega)).1
    rw [Int.add_zero, FW_zero] at h3
    have h4 : FW (mw SS) (q : Int) 0 ≤ 2 * FF (q : Int) 0 := by
      rw [FF_FW, ← FW_lin]
      unfold FW
      have : ∀ l : List (Int × Nat), (∀ x ∈ l, x.2 < q) → (l.map fun x => mw SS x.2).sum ≤ (l.map fun x => 2 * SS x.2).sum := by
        intro l
        induction l with
        | nil => intro _; exact Int.le_refl _
        | cons x l ih =>
          intro hl
          rw [List.map_cons, List.sum_cons, List.map_cons, List.sum_cons]
          have i1 := ih fun y hy => hl y (List.mem_cons_of_mem _ hy)
          have i2 := SS_dbl k x.2 (by have := hl x List.mem_cons_self; omega)
          have i3 := SS_nn x.2
          have i4 : mw SS x.2 ≤ 2 * SS x.2 := by unfold mw; omega
          omega
      exact this _ fun x hx => by have := naf_lt hx; simpa using this
    have h5 : SS 0 = 1 := by rw [SS_tb 0 (by decide)]; decide
    rw [h5] at h3
    rw [h1, FF_FW]
    omega
theorem mw_SS (q : Nat) : mw SS q ≤ 2 * SS q := by
  have := SS_dbl q q (Nat.le_refl _)
  have := SS_nn q
  unfold mw
  omega
theorem FF_sum (a b : Int) (p : Nat) : FF (a + b) p ≤ 2 * (FF a p + FF b p) := by
  have h1 := (addW (w := SS) SS_nn _ a b (Nat.le_refl _) p).1
  have h2 := FW_mono (w := mw SS) (w' := fun q => 2 * SS q) mw_SS a p
  have h3 := FW_mono (w := mw SS) (w' := fun q => 2 * SS q) mw_SS b p
  rw [FW_lin] at h2 h3
  rw [FF_FW, FF_FW, FF_FW]
  omega
theorem size_sum (a b : Int) : (toT (a + b)).size + 3 ≤ 2 * ((toT a).size + (toT b).size) := by
  have h1 := FF_sum a b 0
  have h2 := size_FF a
  have h3 := size_FF b
  have h4 := size_FF (a + b)
  omega
end Sk

set_option Elab.async false
set_option linter.all false
set_option maxRecDepth 100000
set_option maxHeartbeats 1000000
namespace Sk
theorem FF_pm {s : Int} (h : s = 1 ∨ s = -1) (p : Nat) : FF s p = SS p := by
  rcases h with rfl | rfl
  · rw [FF_odd (by decide), show ((1 : Int) - (2 - 1 % 4)) / 2 = 0 by decide, FF_zero, Int.add_zero]
  · rw [FF_odd (by decide), show ((-1 : Int) - (2 - -1 % 4)) / 2 = 0 by decide, FF_zero, Int.add_zero]
theorem FF_shift (m : Int) (k p : Nat) : FF (2 ^ k * m) p = FF m (p + k) := by unfold FF; rw [naf_shift]
theorem FF_dbl (m : Int) (p : Nat) : FF (2 * m) p = FF m (p + 1) := by rw [FF_even (by omega), show 2 * m / 2 = m by omega]
theorem FF_low {s : Int} (h : s = 1 ∨ s = -1) (k : Int) (p : Nat) : FF (s + 4 * k) p = SS p + FF k (p + 2) := by
  have e : FF (2 * k) (p + 1) = FF k (p + 2) := FF_dbl k (p + 1)
  rcases h with rfl | rfl
  · rw [FF_odd (by omega), show (1 + 4 * k - (2 - (1 + 4 * k) % 4)) / 2 = 2 * k by omega, e]
  · rw [FF_odd (by omega), show (-1 + 4 * k - (2 - (-1 + 4 * k) % 4)) / 2 = 2 * k by omega, e]
theorem FF_three {s : Int} (h : s = 1 ∨ s = -1) (p : Nat) : FF (3 * s) p = SS p + SS (p + 2) := by
  have := FF_low (s := -s) (by omega) s p
  rw [show -s + 4 * s = 3 * s by omega, FF_pm h] at this
  exact this
theorem FF_spow {s : Int} (h : s = 1 ∨ s = -1) (k p : Nat) : FF (s * 2 ^ k) p = SS (p + k) := by rw [Int.mul_comm, FF_shift, FF_pm h]
theorem FF_two {s s' : Int} (h : s = 1 ∨ s = -1) (h' : s' = 1 ∨ s' = -1) (d p : Nat) (hw : wt ((p + d : Nat) : Int) ≤ 4) : FF (s + s' * 2 ^ d) p ≤ SS p + SS (p + d) + 4 := by
  have g := SS_succ hw
  have p0 := SS_pos p
  have p1 := SS_pos (p + d)
  match d with
  | 0 =>
    rw [Int.pow_zero, Int.mul_one]
    by_cases e : s' = s
    · rw [e, show s + s = 2 * s by omega, FF_dbl, FF_pm h]
      rw [Nat.add_zero] at g
      omega
    · rw [show s + s' = 0 by omega, FF_zero]
      omega
  | 1 =>
    rw [show (2 : Int) ^ 1 = 2 by decide]
    by_cases e : s' = s
    · rw [e, show s + s * 2 = 3 * s by omega, FF_three h]
      rw [show p + 2 = p + 1 + 1 by omega]
      omega
    · rw [show s + s' * 2 = s' by omega, FF_pm h']
      omega
  | d + 2 =>
    have e : s + s' * 2 ^ (d + 2) = s + 4 * (s' * 2 ^ d) := by
      rw [Int.pow_succ, Int.pow_succ, Int.mul_assoc (2 ^ d) 2 2, show (2 : Int) * 2 = 4 by decide, ← Int.mul_assoc, Int.mul_comm _ 4]
    rw [e, FF_low h, FF_spow h', show p + 2 + d = p + (d + 2) by omega]
    omega
theorem FF_tri {s t u : Int} (hs : s = 1 ∨ s = -1) (ht : t = 1 ∨ t = -1) (hu : u = 1 ∨ u = -1) (c d e : Nat) (wc : wt (c : Int) ≤ 3) (wb : wt ((c + d : Nat) : Int) ≤ 3) (wa : wt ((c + d + e : Nat) : Int) ≤ 3) :
    FF (s + t * 2 ^ d + u * 2 ^ (d + e)) c ≤ SS c + SS (c + d) + SS (c + d + e) + 8 := by
  have gc := SS_succ (e := c) (by omega)
  have gb := SS_succ (e := c + d) (by omega)
  have ga := SS_succ (e := c + d + e) (by omega)
  have pc := SS_pos c
  have pb := SS_pos (c + d)
  have pa := SS_pos (c + d + e)
  match d with
  | 0 =>
    rw [Int.pow_zero, Int.mul_one, Nat.zero_add]
    simp only [Nat.add_zero] at *
    by_cases q : t = s
    · rw [q, show s + s = 2 * s by omega]
      cases e with
      | zero =>
        rw [Int.pow_zero, Int.mul_one]
        simp only [Nat.add_zero] at *
        by_cases q2 : u = s
        · rw [q2, show 2 * s + s = 3 * s by omega, FF_three hs]
          have := SS_succ (e := c + 1) (by have := wt_succ (c : Int); rw [show ((c + 1 : Nat) : Int) = (c : Int) + 1 by omega]; omega)
          rw [show c + 1 + 1 = c + 2 by omega] at this
          omega
        · rw [show 2 * s + u = s by omega, FF_pm hs]
          omega
      | succ e =>
        have e1 : 2 * s + u * 2 ^ (e + 1) = 2 * (s + u * 2 ^ e) := by rw [Int.pow_succ, ← Int.mul_assoc]; omega
        rw [e1, FF_dbl]
        have := FF_two hs hu e (c + 1) (by rw [show c + 1 + e = c + (e + 1) by omega]; omega)
        rw [show c + 1 + e = c + (e + 1) by omega] at this
        omega
    · rw [show s + t = 0 by omega, Int.zero_add, FF_spow hu]
      omega
  | 1 =>
    rw [show (2 : Int) ^ 1 = 2 by decide]
    by_cases q : t = s
    · subst q
      cases e with
      | zero =>
        rw [show (2 : Int) ^ (1 + 0) = 2 by decide]
        simp only [Nat.add_zero] at *
        by_cases q2 : u = t
        · rw [q2, show t + t * 2 + t * 2 = t + 4 * t by omega, FF_low hs, FF_pm hs]
          rw [show c + 2 = c + 1 + 1 by omega]
          omega
        · rw [show t + t * 2 + u * 2 = t by omega, FF_pm hs]
          omega
      | succ e =>
        have e1 : t + t * 2 + u * 2 ^ (1 + (e + 1)) = -t + 4 * (t + u * 2 ^ e) := by
          rw [show 1 + (e + 1) = e + 1 + 1 by omega, Int.pow_succ, Int.pow_succ, Int.mul_assoc (2 ^ e) 2 2, show (2 : Int) * 2 = 4 by decide, ← Int.mul_assoc]
          omega
        rw [e1, FF_low (by omega)]
        have := FF_two hs hu e (c + 2) (by rw [show c + 2 + e = c + 1 + (e + 1) by omega]; omega)
        rw [show c + 2 + e = c + 1 + (e + 1) by omega] at this
        rw [show c + 2 = c + 1 + 1 by omega] at this ⊢
        omega
    · rw [show s + t * 2 = t by omega]
      have := FF_two ht hu (1 + e) c (by rw [show c + (1 + e) = c + 1 + e by omega]; omega)
      rw [show c + (1 + e) = c + 1 + e by omega] at this
      omega
  | d + 2 =>
    have e1 : s + t * 2 ^ (d + 2) + u * 2 ^ (d + 2 + e) = s + 4 * (2 ^ d * (t + u * 2 ^ e)) := by
      rw [show d + 2 + e = e + (d + 2) by omega, Int.pow_add 2 e (d + 2), Int.pow_succ, Int.pow_succ, Int.mul_assoc (2 ^ d) 2 2, show (2 : Int) * 2 = 4 by decide, Int.mul_add]
      have e2 : u * (2 ^ e * (2 ^ d * 4)) = 4 * (2 ^ d * (u * 2 ^ e)) := by
        rw [← Int.mul_assoc u, ← Int.mul_assoc (u * 2 ^ e), Int.mul_comm (u * 2 ^ e) (2 ^ d), Int.mul_comm _ 4]
      have e3 : t * (2 ^ d * 4) = 4 * (2 ^ d * t) := by rw [← Int.mul_assoc, Int.mul_comm t, Int.mul_comm _ 4]
      rw [e2, e3]
      omega
    rw [e1, FF_low hs, FF_shift]
    have := FF_two ht hu e (c + 2 + d) (by rw [show c + 2 + d + e = c + (d + 2) + e by omega]; omega)
    rw [show c + 2 + d = c + (d + 2) by omega] at this ⊢
    omega
theorem pw_split {c a : Nat} (h : c ≤ a) (s : Int) : s * 2 ^ a = 2 ^ c * (s * 2 ^ (a - c)) := by
  have : a = c + (a - c) := by omega
  have e : (2 : Int) ^ a = 2 ^ c * 2 ^ (a - c) := by rw [← Int.pow_add, ← this]
  rw [e, ← Int.mul_assoc, Int.mul_comm s, Int.mul_assoc]
/-- a sum of two, of three powers, in any order -/
theorem FF_sum2 {s t : Int} (hs : s = 1 ∨ s = -1) (ht : t = 1 ∨ t = -1) (a b : Nat) (wa : wt (a : Int) ≤ 3) (wb : wt (b : Int) ≤ 3) : FF (s * 2 ^ a + t * 2 ^ b) 0 ≤ SS a + SS b + 4 := by
  have key : ∀ {s t : Int} (hs : s = 1 ∨ s = -1) (ht : t = 1 ∨ t = -1) (a b : Nat), wt (a : Int) ≤ 3 → wt (b : Int) ≤ 3 → a ≤ b → FF (s * 2 ^ a + t * 2 ^ b) 0 ≤ SS a + SS b + 4 := by
    intro s t hs ht a b wa wb h
    have e : s * 2 ^ a + t * 2 ^ b = 2 ^ a * (s + t * 2 ^ (b - a)) := by rw [pw_split h, Int.mul_add, Int.mul_comm s]
    rw [e, FF_shift, Nat.zero_add]
    have := FF_two hs ht (b - a) a (by rw [show a + (b - a) = b by omega]; omega)
    rw [show a + (b - a) = b by omega] at this
    exact this
  rcases Nat.le_total a b with h | h
  · exact key hs ht a b wa wb h
  · have := key ht hs b a wb wa h
    rw [Int.add_comm]
    omega
theorem FF_sum3 {s t u : Int} (hs : s = 1 ∨ s = -1) (ht : t = 1 ∨ t = -1) (hu : u = 1 ∨ u = -1) (a b c : Nat) (wa : wt (a : Int) ≤ 3) (wb : wt (b : Int) ≤ 3) (wc : wt (c : Int) ≤ 3) : FF (s * 2 ^ a + t * 2 ^ b + u * 2 ^ c) 0 ≤ SS a + SS b + SS c + 8 := by
  have key : ∀ {s t u : Int} (hs : s = 1 ∨ s = -1) (ht : t = 1 ∨ t = -1) (hu : u = 1 ∨ u = -1) (a b c : Nat), wt (a : Int) ≤ 3 → wt (b : Int) ≤ 3 → wt (c : Int) ≤ 3 → a ≤ b → b ≤ c → FF (s * 2 ^ a + t * 2 ^ b + u * 2 ^ c) 0 ≤ SS a + SS b + SS c + 8 := by
    intro s t u hs ht hu a b c wa wb wc h1 h2
    have e : s * 2 ^ a + t * 2 ^ b + u * 2 ^ c = 2 ^ a * (s + t * 2 ^ (b - a) + u * 2 ^ ((b - a) + (c - b))) := by
      rw [pw_split h1, pw_split (Nat.le_trans h1 h2), Int.mul_add, Int.mul_add, Int.mul_comm s, show c - a = b - a + (c - b) by omega]
    rw [e, FF_shift, Nat.zero_add]
    have := FF_tri hs ht hu a (b - a) (c - b) wa (by rw [show a + (b - a) = b by omega]; exact wb) (by rw [show a + (b - a) + (c - b) = c by omega]; exact wc)
    rw [show a + (b - a) + (c - b) = c by omega, show a + (b - a) = b by omega] at this
    exact this
  rcases Nat.le_total a b with h | h <;> rcases Nat.le_total b c with h2 | h2
  · exact key hs ht hu a b c wa wb wc h h2
  · rcases Nat.le_total a c with h3 | h3
    · have := key hs hu ht a c b wa wc wb h3 h2
      rw [show s * 2 ^ a + t * 2 ^ b + u * 2 ^ c = s * 2 ^ a + u * 2 ^ c + t * 2 ^ b by omega]
      omega
    · have := key hu hs ht c a b wc wa wb h3 h
      rw [show s * 2 ^ a + t * 2 ^ b + u * 2 ^ c = u * 2 ^ c + s * 2 ^ a + t * 2 ^ b by omega]
      omega
  · rcases Nat.le_total a c with h3 | h3
    · have := key ht hs hu b a c wb wa wc h h3
      rw [show s * 2 ^ a + t * 2 ^ b + u * 2 ^ c = t * 2 ^ b + s * 2 ^ a + u * 2 ^ c by omega]
      omega
    · have := key ht hu hs b c a wb wc wa h2 h3
      rw [show s * 2 ^ a + t * 2 ^ b + u * 2 ^ c = t * 2 ^ b + u * 2 ^ c + s * 2 ^ a by omega]
      omega
  · have := key hu ht hs c b a wc wb wa h2 h
    rw [show s * 2 ^ a + t * 2 ^ b + u * 2 ^ c = u * 2 ^ c + t * 2 ^ b + s * 2 ^ a by omega]
    omega
end Sk

set_option Elab.async false
set_option linter.all false
set_option maxRecDepth 100000
set_option maxHeartbeats 1000000
namespace Sk
theorem naf_neg : ∀ (k : Nat) (n : Int) (p : Nat), n.natAbs ≤ k → naf (-n) p = (naf n p).map fun x => (-x.1, x.2)
  | 0, n, p, h => by
    have : n = 0 := by omega
    subst this
    rw [show -(0 : Int) = 0 from rfl, naf_zero]; rfl
  | k + 1, n, p, h => by
    by_cases h0 : n = 0
    · subst h0; rw [show -(0 : Int) = 0 from rfl, naf_zero]; rfl
    rcases Int.emod_two_eq n with e | e
    · rw [naf_even (n := -n) (by omega), naf_even e, show -n / 2 = -(n / 2) by omega, naf_neg k _ _ (by omega)]
    · rw [naf_odd (n := -n) (by omega), naf_odd e, List.map_cons]
      congr 1
      · show (_, _) = (_, _)
        congr 1
        omega
      · by_cases hz : (n - (2 - n % 4)) / 2 = 0
        · rw [hz, show (-n - (2 - -n % 4)) / 2 = 0 by omega, naf_zero]; rfl
        · rw [show (-n - (2 - -n % 4)) / 2 = -((n - (2 - n % 4)) / 2) by omega, naf_neg k _ _ (by omega)]
theorem FF_neg (n : Int) (p : Nat) : FF (-n) p = FF n p := by
  unfold FF
  rw [naf_neg _ n p (Nat.le_refl _), List.map_map]
  rfl
theorem wt_negI (n : Int) : wt (-n) = wt n := by
  unfold wt
  rw [naf_neg _ n 0 (Nat.le_refl _), List.length_map]
theorem abs_cases (n : Int) : (n.natAbs : Int) = n ∨ (n.natAbs : Int) = -n := by omega
theorem FF_abs (n : Int) (p : Nat) : FF (n.natAbs : Int) p = FF n p := by
  rcases abs_cases n with h | h
  · rw [h]
  · rw [h, FF_neg]
theorem wt_abs (n : Int) : wt (n.natAbs : Int) = wt n := by
  rcases abs_cases n with h | h
  · rw [h]
  · rw [h, wt_negI]
theorem SS_abs (n : Int) : SS n.natAbs = 1 + FF n 0 := by rw [← FF_abs]; exact size_FF _
theorem FF_most {n : Int} {p k : Nat} {b : Int} (hb : 0 ≤ b) (h : ∀ x ∈ naf n p, SS x.2 ≤ b) (hl : (naf n p).length ≤ k) : FF n p ≤ k * b := by
  unfold FF
  have : ∀ l : List (Int × Nat), (∀ x ∈ l, SS x.2 ≤ b) → (l.map fun x => SS x.2).sum ≤ l.length * b := by
    intro l
    induction l with
    | nil => intro _; simp
    | cons x l ih =>
      intro h
      rw [List.map_cons, List.sum_cons, List.length_cons]
      have h1 := h x (List.mem_cons_self ..)
      have h2 := ih fun y hy => h y (List.mem_cons_of_mem _ hy)
      rw [Int.natCast_add, Int.add_mul]
      omega
  have h2 := this _ h
  have h3 : ((naf n p).length : Int) * b ≤ k * b := Int.mul_le_mul_of_nonneg_right (by omega) hb
  omega
theorem SS13 : ∀ p : Nat, p < 40 → SS p ≤ 13 := by
  have h : ∀ p : Nat, p < 40 → szF 5 p ≤ 13 := by decide +kernel
  intro p hp
  unfold SS
  rw [← sz_le p (by omega)]
  have := h p hp
  omega
/-- a power far above -/
theorem FF_far {s : Int} (hs : s = 1 ∨ s = -1) : ∀ (k : Nat) (n : Int) (p x : Nat), n.natAbs ≤ 2 ^ k → k + 2 ≤ x → FF (n + s * 2 ^ x) p = FF n p + SS (p + x)
  | 0, n, p, x, h, hx => by
    have h' : n = 0 ∨ n = 1 ∨ n = -1 := by simp at h; omega
    have e : s * 2 ^ x = 4 * (s * 2 ^ (x - 2)) := by
      have : x = x - 2 + 1 + 1 := by omega
      rw [this, Int.pow_succ, Int.pow_succ, Int.mul_assoc (2 ^ (x - 2)) 2 2, show (2 : Int) * 2 = 4 by decide, ← Int.mul_assoc, Int.mul_comm _ 4, show x - 2 + 1 + 1 - 2 = x - 2 by omega]
    rcases h' with rfl | h'
    · rw [Int.zero_add, FF_spow hs, FF_zero, Int.zero_add]
    · rw [e, FF_low h', FF_spow hs, FF_pm h', show p + 2 + (x - 2) = p + x by omega]
  | k + 1, n, p, x, h, hx => by
    have e : s * 2 ^ x = 4 * (s * 2 ^ (x - 2)) ∧ s * 2 ^ x = 2 * (s * 2 ^ (x - 1)) := by
      have h2 : x = x - 2 + 1 + 1 := by omega
      have h1 : x - 1 = x - 2 + 1 := by omega
      have e1 : (2 : Int) ^ x = 2 ^ (x - 1) * 2 := by rw [← Int.pow_succ]; congr 1; omega
      have e2 : (2 : Int) ^ (x - 1) = 2 ^ (x - 2) * 2 := by rw [← Int.pow_succ]; congr 1
      refine ⟨?_, ?_⟩
      · rw [e1, e2, ← Int.mul_assoc, ← Int.mul_assoc]; omega
      · rw [e1, ← Int.mul_assoc]; omega
    have hp : (2 : Nat) ^ (k + 1) = 2 * 2 ^ k := by rw [Nat.pow_succ]; omega
    rcases Int.emod_two_eq n with q | q
    · rw [FF_even (n := n + s * 2 ^ x) (by omega), FF_even q, show (n + s * 2 ^ x) / 2 = n / 2 + s * 2 ^ (x - 1) by omega, FF_far hs k (n / 2) (p + 1) (x - 1) (by omega) (by omega), show p + 1 + (x - 1) = p + x by omega]
    · rw [FF_odd (n := n + s * 2 ^ x) (by omega), FF_odd q, show (n + s * 2 ^ x - (2 - (n + s * 2 ^ x) % 4)) / 2 = (n - (2 - n % 4)) / 2 + s * 2 ^ (x - 1) by omega, FF_far hs k _ (p + 1) (x - 1) (by omega) (by omega), show p + 1 + (x - 1) = p + x by omega]
      omega
/-! ### the numbers of _law_great -/
def Pm (s : Int) : Prop := s = 1 ∨ s = -1
/-- a sum of up to three powers, the first exponent of P, the others of R -/
def Pows (P R : Int → Prop) (n : Int) : Prop := ∃ s a, Pm s ∧ P a ∧ (n = s * 2 ^ a.natAbs ∨ ∃ t b, Pm t ∧ R b ∧ (n = s * 2 ^ a.natAbs + t * 2 ^ b.natAbs ∨ ∃ u c, Pm u ∧ R c ∧ n = s * 2 ^ a.natAbs + t * 2 ^ b.natAbs + u * 2 ^ c.natAbs))
def Gr : Nat → Int → Prop
  | 0 => fun n => -20 ≤ n ∧ n ≤ 32
  | 1 => Pows (Gr 0) (Gr 0)
  | d + 2 => Pows (Gr (d + 1)) (Gr d)
theorem Pows.wt {P R : Int → Prop} {n : Int} (h : Pows P R n) : wt n ≤ 3 := by
  obtain ⟨s, a, hs, _, h⟩ := h
  have h1 : Sk.wt (s * 2 ^ a.natAbs) ≤ 1 := by
    have := wt_pow a.natAbs 0 s hs
    rw [wt_zero, Int.zero_add] at this
    exact this
  rcases h with rfl | ⟨t, b, ht, _, h⟩
  · omega
  have h2 := wt_pow b.natAbs (s * 2 ^ a.natAbs) t ht
  rcases h with rfl | ⟨u, c, hu, _, rfl⟩
  · omega
  have h3 := wt_pow c.natAbs (s * 2 ^ a.natAbs + t * 2 ^ b.natAbs) u hu
  omega
theorem natAbs_spow {s : Int} (h : Pm s) (x : Nat) : (s * 2 ^ x).natAbs = 2 ^ x := by
  rw [Int.natAbs_mul, Int.natAbs_pow]
  rcases h with rfl | rfl <;> simp
theorem Pows.abs {P R : Int → Prop} {n : Int} {m : Nat} (h : Pows P R n) (hP : ∀ a, P a → a.natAbs ≤ m) (hR : ∀ a, R a → a.natAbs ≤ m) : n.natAbs ≤ 3 * 2 ^ m := by
  obtain ⟨s, a, hs, ha, h⟩ := h
  have h1 := natAbs_spow hs a.natAbs
  have g1 : 2 ^ a.natAbs ≤ 2 ^ m := Nat.pow_le_pow_right (by decide) (hP a ha)
  rcases h with rfl | ⟨t, b, ht, hb, h⟩
  · omega
  have h2 := natAbs_spow ht b.natAbs
  have g2 : 2 ^ b.natAbs ≤ 2 ^ m := Nat.pow_le_pow_right (by decide) (hR b hb)
  rcases h with rfl | ⟨u, c, hu, hc, rfl⟩
  · have := Int.natAbs_add_le (s * 2 ^ a.natAbs) (t * 2 ^ b.natAbs)
    omega
  have h3 := natAbs_spow hu c.natAbs
  have g3 : 2 ^ c.natAbs ≤ 2 ^ m := Nat.pow_le_pow_right (by decide) (hR c hc)
  have := Int.natAbs_add_le (s * 2 ^ a.natAbs) (t * 2 ^ b.natAbs)
  have := Int.natAbs_add_le (s * 2 ^ a.natAbs + t * 2 ^ b.natAbs) (u * 2 ^ c.natAbs)
  omega
theorem gr_wt : ∀ {d : Nat} {n : Int}, Gr d n → wt n ≤ 3
  | 0, n, h => by
    have key : ∀ k : Nat, k < 33 → (placesF 8 k 0).length ≤ 3 := by decide +kernel
    obtain ⟨h1, h2⟩ := h
    rw [← wt_abs]
    have := key n.natAbs (by omega)
    rw [placesF_eq 7 n.natAbs 0 (by have : (2 : Nat) ^ 7 = 128 := by decide
                                    omega), List.length_map] at this
    exact this
  | 1, n, h => Pows.wt h
  | d + 2, n, h => Pows.wt h
/-- sums of exponents of bounded size -/
theorem Pows.size {P R : Int → Prop} {n A B : Int} (h : Pows P R n) (hP : ∀ a, P a → SS a.natAbs ≤ A ∧ Sk.wt a ≤ 3) (hR : ∀ a, R a → SS a.natAbs ≤ B ∧ Sk.wt a ≤ 3) (hB : 0 ≤ B) : SS n.natAbs ≤ A + 2 * B + 9 := by
  rw [SS_abs]
  obtain ⟨s, a, hs, ha, h⟩ := h
  obtain ⟨a1, a2⟩ := hP a ha
  rw [← wt_abs] at a2
  rcases h with rfl | ⟨t, b, ht, hb, h⟩
  · rw [FF_spow hs, Nat.zero_add]; omega
  obtain ⟨b1, b2⟩ := hR b hb
  rw [← wt_abs] at b2
  rcases h with rfl | ⟨u, c, hu, hc, rfl⟩
  · have := FF_sum2 hs ht a.natAbs b.natAbs a2 b2; omega
  obtain ⟨c1, c2⟩ := hR c hc
  rw [← wt_abs] at c2
  have := FF_sum3 hs ht hu a.natAbs b.natAbs c.natAbs a2 b2 c2
  omega
theorem gr0_abs {n : Int} (h : Gr 0 n) : n.natAbs ≤ 32 := by obtain ⟨h1, h2⟩ := h; omega
theorem gr0_size {n : Int} (h : Gr 0 n) : SS n.natAbs ≤ 13 := SS13 _ (by have := gr0_abs h; omega)
theorem small_size {n : Int} {k : Nat} (hk : n.natAbs ≤ 2 ^ 39) (hw : wt n ≤ k) : FF n 0 ≤ k * 13 :=
  FF_most (by decide) (fun x hx => SS13 _ (Nat.lt_succ_of_le (naf_le hk hx))) hw
theorem gr1_size {n : Int} (h : Gr 1 n) : SS n.natAbs ≤ 40 := by
  rw [SS_abs]
  have := small_size (Nat.le_trans (Pows.abs h (fun a ha => gr0_abs ha) fun a ha => gr0_abs ha) (by decide)) (Pows.wt h)
  omega
theorem gr2_size {n : Int} (h : Gr 2 n) : SS n.natAbs ≤ 67 := by
  have hw := Pows.wt h
  obtain ⟨s, a, hs, ha, h⟩ := h
  have a1 := gr1_size ha
  rw [SS_abs]
  -- all that is behind the first power
  obtain ⟨m, hn, hm, hmw⟩ : ∃ m : Int, n = m + s * 2 ^ a.natAbs ∧ m.natAbs ≤ 2 ^ 33 ∧ wt m ≤ 2 := by
    rcases h with rfl | ⟨t, b, ht, hb, h⟩
    · exact ⟨0, by omega, by decide, by rw [wt_zero]; omega⟩
    have hb1 : 2 ^ b.natAbs ≤ 2 ^ 32 := Nat.pow_le_pow_right (by decide) (gr0_abs hb)
    have e33 : (2 : Nat) ^ 33 = 2 * 2 ^ 32 := by decide
    have w1 := wt_pow b.natAbs 0 t ht
    rw [wt_zero, Int.zero_add] at w1
    have n1 := natAbs_spow ht b.natAbs
    rcases h with rfl | ⟨u, c, hu, hc, rfl⟩
    · exact ⟨_, Int.add_comm _ _, by omega, by omega⟩
    have hc1 : 2 ^ c.natAbs ≤ 2 ^ 32 := Nat.pow_le_pow_right (by decide) (gr0_abs hc)
    have w2 := wt_pow c.natAbs (t * 2 ^ b.natAbs) u hu
    have n2 := natAbs_spow hu c.natAbs
    have n3 := Int.natAbs_add_le (t * 2 ^ b.natAbs) (u * 2 ^ c.natAbs)
    exact ⟨t * 2 ^ b.natAbs + u * 2 ^ c.natAbs, by omega, by omega, by omega⟩
  rcases Nat.lt_or_ge a.natAbs 35 with hx | hx
  · have g1 : 2 ^ a.natAbs ≤ 2 ^ 34 := Nat.pow_le_pow_right (by decide) (by omega)
    have g2 := natAbs_spow hs a.natAbs
    have g3 := Int.natAbs_add_le m (s * 2 ^ a.natAbs)
    have g4 : (2 : Nat) ^ 33 + 2 ^ 34 ≤ 2 ^ 39 := by decide
    have := small_size (n := n) (k := 3) (by rw [hn]; omega) hw
    omega
  · rw [hn, FF_far hs 33 m 0 a.natAbs hm (by omega), Nat.zero_add]
    have := small_size (n := m) (k := 2) (Nat.le_trans hm (by decide)) hmw
    omega
theorem gr3_size {n : Int} (h : Gr 3 n) : SS n.natAbs ≤ 156 := by
  have := Pows.size (A := 67) (B := 40) h (fun a ha => ⟨gr2_size ha, gr_wt (d := 2) ha⟩) (fun a ha => ⟨gr1_size ha, gr_wt (d := 1) ha⟩) (by decide)
  omega
theorem gr4_size {n : Int} (h : Gr 4 n) : SS n.natAbs ≤ 299 := by
  have := Pows.size (A := 156) (B := 67) h (fun a ha => ⟨gr3_size ha, gr_wt (d := 3) ha⟩) (fun a ha => ⟨gr2_size ha, gr_wt (d := 2) ha⟩) (by decide)
  omega
/-! ### heights -/
theorem Cb_pows {P R : Int → Prop} {n : Int} {j : Nat} (h : Pows P R n) (hj : 6 ≤ Cb (j + 1)) (hP : ∀ a, P a → a.natAbs + 3 ≤ Cb (j + 1)) (hR : ∀ a, R a → a.natAbs + 3 ≤ Cb (j + 1)) : n.natAbs + 3 ≤ Cb (j + 2) := by
  have h1 := Pows.abs (m := Cb (j + 1) - 3) h (fun a ha => by have := hP a ha; omega) (fun a ha => by have := hR a ha; omega)
  have h2 : Cb (j + 2) = 2 ^ (Cb (j + 1) - 1) + 1 := rfl
  obtain ⟨z, hz⟩ : ∃ z, Cb (j + 1) = z + 6 := ⟨Cb (j + 1) - 6, by omega⟩
  rw [hz] at h1 h2
  rw [show z + 6 - 3 = z + 3 by omega, Nat.pow_add] at h1
  rw [show z + 6 - 1 = z + 5 by omega, Nat.pow_add] at h2
  have : 1 ≤ 2 ^ z := Nat.two_pow_pos z
  have e3 : (2 : Nat) ^ 3 = 8 := by decide
  have e5 : (2 : Nat) ^ 5 = 32 := by decide
  rw [e3] at h1
  rw [e5] at h2
  omega
theorem gr_low : ∀ {d : Nat} {n : Int}, Gr d n → n.natAbs + 3 ≤ Cb (d + 6) ∧ 6 ≤ Cb (d + 6)
  | 0, n, h => by
    have := gr0_abs h
    have := Cb_ge5
    show _ ≤ Cb 6 ∧ 6 ≤ Cb 6
    omega
  | 1, n, h => by
    have c6 := Cb_ge5
    have := Cb_pows (j := 5) h (by show 6 ≤ Cb 6; omega) (fun a ha => (gr_low (d := 0) ha).1) (fun a ha => (gr_low (d := 0) ha).1)
    exact ⟨this, by have h2 : Cb 7 = 2 ^ (Cb 6 - 1) + 1 := rfl
                    have h3 : Cb 6 - 1 < 2 ^ (Cb 6 - 1) := Nat.lt_two_pow_self
                    show 6 ≤ Cb 7
                    omega⟩
  | d + 2, n, h => by
    obtain ⟨s, a, hs, ha, _⟩ := id h
    have ha' := gr_low (d := d + 1) ha
    have up : ∀ b, Gr d b → b.natAbs + 3 ≤ Cb (d + 1 + 6) := fun b hb => by
      have h1 := gr_low (d := d) hb
      have h2 : Cb (d + 1 + 6) = 2 ^ (Cb (d + 6) - 1) + 1 := rfl
      have h3 : Cb (d + 6) - 1 < 2 ^ (Cb (d + 6) - 1) := Nat.lt_two_pow_self
      omega
    have := Cb_pows (j := d + 6) h ha'.2 (fun b hb => (gr_low (d := d + 1) hb).1) up
    refine ⟨this, ?_⟩
    have h2 : Cb (d + 2 + 6) = 2 ^ (Cb (d + 1 + 6) - 1) + 1 := rfl
    have h3 : Cb (d + 1 + 6) - 1 < 2 ^ (Cb (d + 1 + 6) - 1) := Nat.lt_two_pow_self
    have := ha'.2
    omega
theorem gr_height {d : Nat} {n : Int} (h : Gr d n) : (toT n).height ≤ d + 5 := height_toT _ n (by have := (gr_low h).1; show _ < Cb (d + 6); omega)
theorem size_abs (n : Int) : ((toT n).size : Int) = SS n.natAbs := by rw [SS_abs]; exact size_FF n
theorem gr_size {d : Nat} {n : Int} (hd : d ≤ 4) (h : Gr d n) : (toT n).size ≤ 299 := by
  have e := size_abs n
  have key : SS n.natAbs ≤ 299 := by
    have hd' : d = 0 ∨ d = 1 ∨ d = 2 ∨ d = 3 ∨ d = 4 := by omega
    rcases hd' with rfl | rfl | rfl | rfl | rfl
    · exact Int.le_trans (gr0_size h) (by decide)
    · exact Int.le_trans (gr1_size h) (by decide)
    · exact Int.le_trans (gr2_size h) (by decide)
    · exact Int.le_trans (gr3_size h) (by decide)
    · exact gr4_size h
  rw [← e] at key
  exact Int.ofNat_le.mp key
theorem gr_fits {d : Nat} {n : Int} (hd : d ≤ 4) (h : Gr d n) : (toT n).fits := ⟨Nat.le_trans (gr_size hd h) (by omega), Nat.le_trans (gr_height h) (by omega)⟩
theorem gr_len {d : Nat} {n : Int} (h : Gr d n) : (toT n).toL.length ≤ 3 := by rw [toL_toT, List.length_map, List.length_reverse]; exact gr_wt h
end Sk

set_option Elab.async false
set_option linter.all false
set_option maxRecDepth 100000
set_option maxHeartbeats 2000000
namespace Sk
open PySem L2 Evl
section
variable {K : PySem.W.Frag} {CN CL : Addr}
theorem small_ok {n : Int} (h : n.natAbs ≤ 2 ^ 12) : (toT n).ok ∧ (toT n).height ≤ 5 := by
  have h5 : n.natAbs < Cb 6 := Nat.lt_of_lt_of_le (Nat.lt_of_le_of_lt h (by decide)) Cb_ge5
  exact ⟨toT_ok (E := 12) (by decide) h, height_toT 5 n h5⟩
/-- of_int of a small one does not raise -/
theorem pOfInt_ok {n : Int} {H : Hp} (hn : n.natAbs < 2 ^ 2900) (hs : (toT n).fits) : pOfInt K CN CL (.int n) H (fun v H' => NumV K H' v (toT n)) fun _ => False :=
  ⟨n, rfl, fun _ => ⟨szk_of (Nat.lt_of_le_of_lt hs.1 (by decide)), fun _ v H' h => h, fun h => absurd hs h⟩, fun h => absurd hn h⟩
theorem fits_small {n : Nat} (h : n < 7000) : (toT (n : Int)).fits := by
  refine ⟨?_, ?_⟩
  · rw [size_toT]
    have hb : ((n : Int)).natAbs ≤ 2 ^ 13 := by simp; omega
    have := sum_all ((naf (n : Int) 0).map (·.2)) (fun p => (toT ((p : Nat) : Int)).size) 9 fun p hp => by
      obtain ⟨x, hx, rfl⟩ := List.mem_map.mp hp
      exact sz14 _ (Nat.lt_succ_of_le (naf_le hb hx))
    rw [List.length_map] at this
    have h2 := naf_len 13 (n : Int) 0 hb
    omega
  · exact Nat.le_trans (height_toT 5 _ (Nat.lt_of_lt_of_le (by simp; omega : ((n : Int)).natAbs < 16385) Cb_ge5)) (by decide)
theorem fits_m1 : (toT (-1)).fits := by
  have h : (toT (-1)) = .cons (-1) .nil .nil := by
    rw [toT_eq, naf_odd (by decide), show ((-1 : Int) - (2 - -1 % 4)) / 2 = 0 by decide, naf_zero]
    show T.cons _ (toT ((0 : Nat) : Int)) .nil = _
    rw [show ((0 : Nat) : Int) = 0 from rfl, toT_eq, naf_zero] <;> rfl
  rw [h]
  exact ⟨by decide, by decide⟩
/-- the suite's answer, at a caught error of the class -/
theorem suite_true {D : Ends} {σ : L2.St} {H : Hp} {si : Nat} {a d a_Missing a_ReckonError a_TooLarge : Addr} (hR : PySem.W.kitOne K (.ref CN) (.ref a_ReckonError) = some true) (hA : PySem.W.kitAny K (.ref CN) [.ref a_Missing, .ref a_TooLarge] = some false) (hd : ErrAt K CN d H) (hv : σ[si]? = some (some (.ref a)))
    (k : ∀ H', Ex H H' → D.rt (.bl true) H') : tRet (tAndV (tCB (rIsEc K CN a (.ref CN) (some d)) (tCons (tVar si) (tCons (tC (.ref a_ReckonError)) tNil))) (tNotV (tCB (rIsETc K CN a (.ref CN) (some d)) (tCons (tVar si) (tCons (tTup (tCons (tC (.ref a_Missing)) (tCons (tC (.ref a_TooLarge)) tNil))) tNil))))) D σ H := by
  refine s_ret (v := .bl (true && !false)) (ev_andV (a := true) ?_ fun _ => ev_notV ?_) fun H1 e1 => k H1 e1
  · exact ev_cb (ea_cons (ev_var hv) (ea_cons ev_c ea_nil)) fun H1 e1 Q q => ⟨(hd.ex e1).cau, .ref a_ReckonError, .ref a_ReckonError, true, rfl, fun u r => r, hR, q H1 (Ex.refl _)⟩
  · have hea : EA (tCons (tVar si) (tCons (tTup (tCons (tC (.ref a_Missing)) (tCons (tC (.ref a_TooLarge)) tNil))) tNil)) σ H (fun vs H2 => ∃ v w, vs = [v, w] ∧ v = .ref a ∧ ∃ p vs', w = .ref p ∧ H2 p = some (.tup vs') ∧ vs' = [.ref a_Missing, .ref a_TooLarge]) :=
      ea_two (R := fun v _ => v = .ref a) (R' := fun w H2 => ∃ p vs', w = .ref p ∧ H2 p = some (.tup vs') ∧ vs' = [.ref a_Missing, .ref a_TooLarge]) (er_is (ev_var hv)) monoC
        (er_tup (RA := fun vs' _ => vs' = [.ref a_Missing, .ref a_TooLarge]) (ea_ev (ea_cons ev_c (ea_cons ev_c ea_nil))) (fun _ _ _ _ h => h) fun vs H2 h => by rw [h]; show 2 ≤ 100000; omega) fun v Ha Hb e ⟨p, vs', g1, g2, g3⟩ => ⟨p, vs', g1, e p _ g2, g3⟩
    exact fun H1 e1 Q q => hea H1 e1 _ fun vs H2 e2 ⟨v, w, h1, h2, p, vs', h3, h4, h5⟩ => by
      subst h1 h2 h3 h5
      exact ⟨(hd.ex (e1.trans e2)).cau, p, _, [.ref a_Missing, .ref a_TooLarge], false, rfl, h4, .cons (.own _) (.cons (.own _) .nil), hA, q H2 e2⟩
end
end Sk

set_option Elab.async false
set_option linter.all false
set_option maxRecDepth 100000
set_option maxHeartbeats 1000000
namespace Sk
open PySem L2 Evl
section
variable {K : PySem.W.Frag} {CN CL : Addr} {σ : L2.St} {H : Hp} {te tf : TE} {t : T} {n m : Int}
theorem er_ofint (h : Ev te σ H (.int n)) (hn : n.natAbs < 2 ^ 2900) (hs : (toT n).fits) : ER (tCall (sp_of_int K CN CL) [] E0 (tCons te tNil)) σ H (fun v H' => NumV K H' v (toT n)) :=
  er_call (ea_one (R := fun v _ => v = .int n) (er_is h) monoC) fun vs H1 e1 ⟨v, hv, hv2⟩ => by
    subst hv hv2
    exact srx1 (pOfInt_ok hn hs)
theorem ev_rem (h : ER te σ H (fun v H' => NumV K H' v t)) (hm : Ev tf σ H (.int m)) (hok : t.ok) (hh : t.height < 44) (h1 : 1 ≤ m ∧ m ≤ 10000) : Ev (tCall (sp_remainder K CN) [] E0 (tCons te (tCons tf tNil))) σ H (.int (t.val % m)) :=
  ev_er (er_call (ea_two (R' := fun v _ => v = .int m) h numT.mono (er_is hm) monoC) fun vs H1 e1 ⟨v, w, hv, hv2, hw⟩ => by
    subst hv hw
    exact srx2 ⟨t, m, hv2, rfl, hok, hh, fun _ H' => rfl, fun h => absurd h1 h⟩)
end
section
variable {K : PySem.W.Frag}
/-- what is drawn as a great number, and its size as a tree -/
def GrV (K : PySem.W.Frag) (d : Nat) : VP := fun v H => ∃ n, Gr d n ∧ NumV K H v (toT n)
theorem grV (d : Nat) : Mono (GrV K d) := fun v H H' e ⟨n, h1, h2⟩ => ⟨n, h1, h2.ex e⟩
theorem negT_toT (n : Int) : negT (toT n) = toT (-n) := by
  have h := can_eq (negT_can (toT_can n))
  rw [negT_val, toT_val] at h
  exact h
theorem toT_sgn_neg (n : Int) : decide ((toT n).sgn < 0) = decide (n < 0) := by
  have h := can_sgn (toT_can n)
  rw [toT_val] at h
  exact decide_eq_decide.mpr (by omega)
/-- if sign_of(x) < 0: x = negate(x) -/
theorem q_absT {σ : L2.St} {H : Hp} {D : Ends} {tz : TS} {i : Nat} {v : V} {n : Int} (hi : σ[i]? = some (some v)) (hv : NumV K H v (toT n)) (hl : wt n < 90000) (k : ∀ w H1, Ex H H1 → NumV K H1 w (toT (n.natAbs : Int)) → tz D (σ.set i (some w)) H1) :
    tSeq (tIfS (tTest (tOp xLt (tCall (sp_sign_of K) [] E0 (tCons (tVar i) tNil)) (tC (.int 0)))) (tAsg (tCall (sp_negate K) [] E0 (tCons (tVar i) tNil)) (gName i)) tNext) tz D σ H := by
  have hlen : (toT n).toL.length < 90000 := by rw [toL_toT, List.length_map, List.length_reverse]; exact hl
  refine q_when (b := decide ((toT n).sgn < 0)) (et_test (ev_lt (ev_er (er_call1 (R1 := fun v H => NumV K H v (toT n)) (er_var hi fun H2 e2 => hv.ex e2) numT.mono fun v H2 e2 g => ⟨_, g, rfl⟩)) ev_c)) (fun hb H1 e1 => ?_) (fun hb H1 e1 => ?_)
  · rw [toT_sgn_neg] at hb
    have hn := of_decide_eq_true hb
    refine s_asgR (R := fun v H => NumV K H v (toT (n.natAbs : Int))) (er_call1 (R1 := fun v H => NumV K H v (toT n)) (er_var hi fun H2 e2 => hv.ex (e1.trans e2)) numT.mono fun v H2 e2 g => ⟨_, g, hlen, ?_⟩) fun w H2 e2 g => k w H2 (e1.trans e2) g
    rw [negT_toT, show ((n.natAbs : Nat) : Int) = -n by omega]
  · rw [toT_sgn_neg] at hb
    have hn := of_decide_eq_false hb
    have := k v H1 e1 (by rw [show ((n.natAbs : Nat) : Int) = n by omega]; exact hv.ex e1)
    rw [show σ.set i (some v) = σ by
      apply List.ext_getElem?
      intro j
      by_cases hj : i = j
      · subst hj
        rw [List.getElem?_set_self (List.getElem?_eq_some_iff.mp hi).1, hi]
      · rw [List.getElem?_set_ne hj]] at this
    exact this
theorem gr_mk {d : Nat} {n : Int} (hd : 0 < d) (h : Pows (Gr (d - 1)) (Gr (d - 2)) n) : Gr d n := by
  match d, hd, h with
  | 1, _, h => exact h
  | d + 2, _, h => exact h
theorem sm_toT {n : Int} {d : Nat} (hd : d ≤ 4) (h : Gr d n) : SmOk (toT (n.natAbs : Int)) := by
  have hz := gr_size hd h
  have e := size_abs n
  have hz' : (toT (n.natAbs : Int)).size ≤ 299 := by
    have : ((toT (n.natAbs : Int)).size : Int) = SS n.natAbs := rfl
    omega
  refine ⟨toT_can _, by rw [toT_val]; omega, ?_, by omega, ?_⟩
  · exact Nat.le_trans (height_toT (d + 5) (n.natAbs : Int) (by rw [Int.natAbs_natCast]; have := (gr_low h).1; show _ < Cb (d + 6); omega)) (by omega)
  · rw [toL_toT, List.length_map, List.length_reverse]
    have := gr_wt h
    rw [← wt_abs] at this
    exact Nat.le_trans this (by omega)
theorem gr_ok {n : Int} {d : Nat} (hd : d ≤ 4) (h : Gr d n) : (toT n).ok := ⟨toT_can n, nn_of_can (toT_can n) (by have := gr_size hd h; omega), by have := gr_len h; omega⟩
theorem sumT_cons1 (s : Int) (n : Int) (l : List (Int × T)) : sumT ((s, toT (n.natAbs : Int)) :: l) = s * 2 ^ n.natAbs + sumT l := by
  rw [sumT_cons]
  show s * 2 ^ (toT (n.natAbs : Int)).val.toNat + _ = _
  rw [toT_val, Int.toNat_natCast]
def pGreat (K : PySem.W.Frag) (D : Nat) : V → V → V → Hp → VP → Prop := fun x y z H R => ∃ (l : List Int) (i d : Nat), IntsL l x H ∧ 0 < l.length ∧ l.length ≤ 1000 ∧ (∀ x ∈ l, 0 ≤ x ∧ x < 1000) ∧ y = .int (i : Int) ∧ z = .int (d : Int) ∧ d < D ∧ d ≤ 4 ∧ R = GrV K d
def sp_law_great (K : PySem.W.Frag) (D : Nat) : Sp := spF3 (pGreat K D)
end
def t_law_great (K : PySem.W.Frag) (a_NotAllowed : Addr) (a_TooLarge : Addr) (d : Nat) : TS := (tSeq (tAsg (tCB xInt1 (tCons (tOp (rIxL K) (tVar 0) (tOp xMod (tCB xInt1 (tCons (tVar 1) tNil)) (tCB (rLenS K) (tCons (tVar 0) tNil)))) tNil)) (gName 3))
    (tSeq (tIfS (tTest (tOp rEq (tVar 2) (tC (.int 0)))) (tRet (tCall (sp_of_int K a_NotAllowed a_TooLarge) [] E0 (tCons (tOp xSub (tOp xMod (tVar 3) (tC (.int 53))) (tC (.int 20))) tNil))) tNext)
    (tSeq (tAsg (tLst tNil) (gName 4))
    (tSeq (tFor (iRng1 (tCons (tOp xAdd (tC (.int 1)) (tOp xMod (tCB xInt1 (tCons (tVar 3) tNil)) (tC (.int 3)))) tNil)) (gName 5) (tSeq (tAsg (tCall (sp_law_great K d) [] E0 (tCons (tVar 0) (tCons (tOp xAdd (tOp xAdd (tOp xMul (tC (.int 3)) (tVar 1)) (tVar 5)) (tC (.int 1))) (tCons (tOp xSub (tOp xSub (tVar 2) (tC (.int 1))) (tCB xInt1 (tCons (tAndV (tOp xGt (tVar 5) (tC (.int 0))) (tOp xGt (tVar 2) (tC (.int 1)))) tNil))) tNil)))) (gName 6))
    (tSeq (tIfS (tTest (tOp xLt (tCall (sp_sign_of K) [] E0 (tCons (tVar 6) tNil)) (tC (.int 0)))) (tAsg (tCall (sp_negate K) [] E0 (tCons (tVar 6) tNil)) (gName 6)) tNext)
    (tDrop (tBM K "list" rAppend (tVar 4) (tCons (tTup (tCons (tOp xSub (tC (.int 1)) (tOp xMul (tC (.int 2)) (tOp xMod (tOp xFdiv (tVar 3) (tOp xAdd (tC (.int 3)) (tVar 5))) (tC (.int 2))))) (tCons (tVar 6) tNil))) tNil))))))
    (tRet (tCall (sp_sum_terms K a_NotAllowed a_TooLarge) [] E0 (tCons (tVar 4) tNil)))))))
theorem pure_law_great {K : PySem.W.Frag} {CN CL : Addr} {D : Nat} {vs : List V} {H : Hp} {Q : VK} {E : XK} (h : sp_law_great K (D + 1) vs H Q E) : t_law_great K CN CL D { nx := fun _ H' => Q .non H', rt := Q } (start ["numbers", "at", "depth", "pick", "terms", "k", "exponent"] vs) H := by
  obtain ⟨x, y, z, R, rfl, ⟨l, i, d, ⟨pl, rfl, hpl⟩, hl0, hl1, hlr, rfl, rfl, hdD, hd4, rfl⟩, k⟩ := h
  have him : i % l.length < l.length := Nat.mod_lt _ hl0
  have hpr := hlr _ (getD_mem him)
  refine q_asg (v := .int (l.getD (i % l.length) 0)) (ev_int1 (ev_ints (i := i % l.length) (ev_var rfl) (ev_mod (ev_int1 (ev_var rfl)) (ev_lenL (ev_var rfl) (sq_of hpl)) (by rw [List.length_map]; omega)) (by rw [List.length_map]; exact (Int.natCast_emod _ _).symm) (sq_of hpl) him)) fun H1 e1 => ?_
  generalize hp : l.getD (i % l.length) 0 = p at hpr ⊢
  refine q_when (b := decide (V.int (d : Int) = V.int 0)) (et_test (ev_eq (ev_var rfl) ev_c rfl)) (fun hb H2 e2 => ?_) (fun hb H2 e2 => ?_)
  · have hd0 : d = 0 := by have := V.int.inj (of_decide_eq_true hb); omega
    subst hd0
    have hg : Gr 0 (p % 53 - 20) := ⟨by omega, by omega⟩
    refine s_retR (er_ofint (n := p % 53 - 20) (ev_sub (ev_mod (ev_var rfl) ev_c (by decide)) ev_c) (Nat.lt_of_le_of_lt (gr0_abs hg) (Nat.lt_of_lt_of_le (by decide : 32 < 2 ^ 6) (Nat.pow_le_pow_right (by decide) (by decide)))) (gr_fits (d := 0) (by decide) hg)) fun v H3 e3 g => k v H3 (e1.trans (e2.trans e3)) ⟨_, hg, g⟩
  have hd0 : 0 < d := by
    have := of_decide_eq_false hb
    exact Nat.pos_of_ne_zero fun q => this (by rw [q]; rfl)
  refine q_asgL (el_lst ea_nil (by decide)) fun q H3 hq e3 h3 => ?_
  refine q_forR1 (n := 1 + p % 3) (ea_cons (ev_add ev_c (ev_mod (ev_int1 (ev_var rfl)) ev_c (by decide))) ea_nil) (by omega) (fun j σ H' => ∃ (z5 z6 : Option V) (ys : List V) (g : List (Int × Int)), σ = [some (.ref pl), some (.int (i : Int)), some (.int (d : Int)), some (.int p), some (.ref q), z5, z6] ∧ Ex H H' ∧ H' q = some (.lst ys) ∧ g.length = j ∧
      (∀ (m : Nat) (x : Int × Int), g[m]? = some x → Pm x.1 ∧ Gr (if m = 0 then d - 1 else d - 2) x.2) ∧ ItemsR (TermI K) (g.map fun x => (x.1, toT (x.2.natAbs : Int))) ys H')
    (fun H4 e4 => ⟨none, none, [], [], rfl, e1.trans (e2.trans (e3.trans e4)), e4 q _ h3, rfl, fun m x h => by simp at h, .nil⟩) ?_ ?_
  · rintro j σ H' hj ⟨z5, z6, ys, g, rfl, e4, h4, hgl, hg, hit⟩
    have hj3 : j < 3 := by omega
    have hq0 : H q = none := fresh_back (e1.trans e2) hq
    -- the depth of the next exponent
    have hdep : Ev (tOp xSub (tOp xSub (tVar 2) (tC (.int 1))) (tCB xInt1 (tCons (tAndV (tOp xGt (tVar 5) (tC (.int 0))) (tOp xGt (tVar 2) (tC (.int 1)))) tNil))) [some (.ref pl), some (.int (i : Int)), some (.int (d : Int)), some (.int p), some (.ref q), some (.int (j : Int)), z6] H' (.int ((if j = 0 then d - 1 else d - 2 : Nat) : Int)) := by
      have hb : Ev (tCB xInt1 (tCons (tAndV (tOp xGt (tVar 5) (tC (.int 0))) (tOp xGt (tVar 2) (tC (.int 1)))) tNil)) [some (.ref pl), some (.int (i : Int)), some (.int (d : Int)), some (.int p), some (.ref q), some (.int (j : Int)), z6] H' (.int (if (decide ((0 : Int) < (j : Int)) && decide ((1 : Int) < (d : Int))) then 1 else 0)) :=
        ev_cb (ea_cons (ev_andV (a := decide ((0 : Int) < (j : Int))) (b := decide ((1 : Int) < (d : Int))) (ev_gt (ev_var rfl) ev_c) fun _ => ev_gt (ev_var rfl) ev_c) ea_nil) fun H1 _ Q q => .inr ⟨_, rfl, q H1 (Ex.refl H1)⟩
      refine ev_is (ev_sub (ev_sub (ev_var rfl) ev_c) hb) (congrArg V.int ?_)
      by_cases hj0 : j = 0
      · subst hj0
        simp
        omega
      · rw [if_neg hj0, decide_eq_true (by omega : (0 : Int) < (j : Int)), Bool.true_and]
        by_cases hd1 : 1 < d
        · rw [decide_eq_true (by omega : (1 : Int) < (d : Int)), if_pos rfl]; omega
        · rw [decide_eq_false (by omega : ¬ (1 : Int) < (d : Int)), if_neg (by decide)]; omega
    have hsub : (if j = 0 then d - 1 else d - 2 : Nat) < D ∧ (if j = 0 then d - 1 else d - 2 : Nat) ≤ 4 := by split <;> omega
    refine q_asgR (R := GrV K (if j = 0 then d - 1 else d - 2)) (er_call3 (R1 := IntsL l) (R2 := fun v _ => v = .int ((3 * i + j + 1 : Nat) : Int)) (R3 := fun v _ => v = .int ((if j = 0 then d - 1 else d - 2 : Nat) : Int))
      (er_var rfl fun H5 e5 => ⟨pl, rfl, (e4.trans e5) pl _ hpl⟩) (intsL l) (er_is (ev_is (ev_add (ev_add (ev_mul ev_c (ev_var rfl) (.inl (by decide))) (ev_var rfl)) ev_c) (congrArg V.int (by omega)))) monoC (er_is hdep) monoC fun v w u H5 e5 g1 g2 g3 => ⟨l, _, _, g1, hl0, hl1, hlr, g2, g3, hsub.1, hsub.2, rfl⟩) fun v H5 e5 ⟨n, hn, hv⟩ => ?_
    refine q_absT (i := 6) rfl hv (by have := gr_wt hn; omega) fun w H6 e6 hw => ?_
    have hsg : Ev (tOp xSub (tC (.int 1)) (tOp xMul (tC (.int 2)) (tOp xMod (tOp xFdiv (tVar 3) (tOp xAdd (tC (.int 3)) (tVar 5))) (tC (.int 2))))) [some (.ref pl), some (.int (i : Int)), some (.int (d : Int)), some (.int p), some (.ref q), some (.int (j : Int)), some w] H6 (.int (1 - 2 * (p / (3 + (j : Int)) % 2))) :=
      ev_sub ev_c (ev_mul ev_c (ev_mod (ev_fdiv (ev_var rfl) (ev_add ev_c (ev_var rfl)) ⟨by omega, by omega⟩) ev_c (by decide)) (.inl (by decide)))
    have hpm : Pm (1 - 2 * (p / (3 + (j : Int)) % 2)) := by unfold Pm; omega
    generalize 1 - 2 * (p / (3 + (j : Int)) % 2) = s at hsg hpm
    have e46 := e4.trans (e5.trans e6)
    have hys : ys.length = j := by rw [hit.1, List.length_map, hgl]
    refine s_appU ((e5.trans e6) q _ h4) (ev_var rfl) (eu_tup (ea_cons hsg (ea_cons (ev_var rfl) ea_nil)) (by show 2 ≤ 100000; omega)) (by omega) fun r H7 hr e7 h7 => ?_
    have e47 := e46.trans e7
    have hrq : r ≠ q := fun z => by rw [z, (e5.trans (e6.trans e7)) q _ h4] at h7; cases h7
    have T7 : TEx H7 (upd H7 q (.lst (ys ++ [V.ref r]))) := TEx.put ((e5.trans (e6.trans e7)) q _ h4)
    refine ⟨_, _, ys ++ [V.ref r], g ++ [(s, n)], rfl, Ex.mut e47 hq0, upd_same, by rw [List.length_append, hgl]; rfl, fun m x hm => ?_, ?_⟩
    · rcases Nat.lt_or_ge m g.length with h | h
      · rw [List.getElem?_append_left h] at hm
        exact hg m x hm
      · rw [List.getElem?_append_right h] at hm
        cases hz : m - g.length with
        | zero =>
          rw [hz] at hm
          cases hm
          have : m = j := by omega
          subst this
          exact ⟨hpm, hn⟩
        | succ _ => rw [hz] at hm; cases hm
    · rw [List.map_append]
      refine ItemsR.snoc ((hit.tex termI (Ex.t (e5.trans (e6.trans e7)))).tex termI T7) ⟨r, w, rfl, ?_, (hw.ex e7).tex T7⟩
      exact st_of (by rw [upd_ne hrq]; exact h7)
  · rintro σ H' ⟨z5, z6, ys, g, rfl, e4, h4, hgl, hg, hit⟩
    have hgl3 : g.length = 1 + (p % 3).toNat := by rw [hgl]; omega
    -- the sum of the powers
    have hsum : Gr d (sumT (g.map fun x => (x.1, toT (x.2.natAbs : Int)))) := by
      refine gr_mk hd0 ?_
      match g, hgl3, hg with
      | [], h, _ => simp at h; omega
      | [a], _, hg =>
        rw [List.map_cons, sumT_cons1]
        exact ⟨a.1, a.2, (hg 0 a rfl).1, (hg 0 a rfl).2, .inl (by show _ + sumT [] = _; unfold sumT; simp)⟩
      | [a, b], _, hg =>
        rw [List.map_cons, sumT_cons1, List.map_cons, sumT_cons1]
        exact ⟨a.1, a.2, (hg 0 a rfl).1, (hg 0 a rfl).2, .inr ⟨b.1, b.2, (hg 1 b rfl).1, (hg 1 b rfl).2, .inl (by show _ + (_ + sumT []) = _; unfold sumT; simp)⟩⟩
      | [a, b, c], _, hg =>
        rw [List.map_cons, sumT_cons1, List.map_cons, sumT_cons1, List.map_cons, sumT_cons1]
        exact ⟨a.1, a.2, (hg 0 a rfl).1, (hg 0 a rfl).2, .inr ⟨b.1, b.2, (hg 1 b rfl).1, (hg 1 b rfl).2, .inr ⟨c.1, c.2, (hg 2 c rfl).1, (hg 2 c rfl).2, by show _ + (_ + (_ + sumT [])) = _; unfold sumT; simp [Int.add_assoc]⟩⟩⟩
      | _ :: _ :: _ :: _ :: _, h, _ => simp at h; omega
    have hmem : ∀ x ∈ (g.map fun x => (x.1, toT (x.2.natAbs : Int))), (x.1 = 1 ∨ x.1 = -1) ∧ SmOk x.2 := fun x hx => by
      obtain ⟨y, hy, rfl⟩ := List.mem_map.mp hx
      obtain ⟨m, hm⟩ := List.mem_iff_getElem?.mp hy
      obtain ⟨h1, h2⟩ := hg m y hm
      exact ⟨h1, sm_toT (by split <;> omega) h2⟩
    have hlen : (g.map fun x => (x.1, toT (x.2.natAbs : Int))).length ≤ 400 := by rw [List.length_map]; omega
    generalize (g.map fun x => (x.1, toT (x.2.natAbs : Int))) = G at hit hsum hmem hlen
    refine s_retR (R := fun v H' => NumV K H' v (toT (sumT G))) (er_call (ea_one (R := fun v H5 => v = .ref q ∧ H5 q = some (.lst ys) ∧ ItemsR (TermI K) G ys H5) (er_var rfl fun H5 e5 => ⟨rfl, e5 q _ h4, hit.ex (fun a => (termI a).mono) e5⟩) (fun v Ha Hb e ⟨g1, g2, g3⟩ => ⟨g1, e q _ g2, g3.ex (fun a => (termI a).mono) e⟩)) fun vs H5 e5 ⟨v, hv, g1, g2, g3⟩ => ?_) fun v H5 e5 hv => k v H5 (e4.trans e5) ⟨_, hsum, hv⟩
    subst hv
    have ok : TmOk G := fun x hx => ⟨(hmem x hx).1, (hmem x hx).2.nn⟩
    have hf := gr_fits hd4 hsum
    exact srx1 ⟨q, ys, _, g1, g2, g3, fun x hx => (hmem x hx).2.can, fun h => absurd ok h, fun _ h => absurd hlen (by omega), fun _ _ => ⟨fun x hx => (hmem x hx).2, szk_of (by have := hf.1; omega), fun _ v H' h => h, fun h => absurd hf h⟩⟩
theorem vac_law_great {K : PySem.W.Frag} {vs : List V} {H : Hp} {Q : VK} {E : XK} (h : sp_law_great K 0 vs H Q E) : False := by obtain ⟨x, y, z, R, _, ⟨_, _, _, _, _, _, _, _, _, h, _⟩, _⟩ := h; exact Nat.not_lt_zero _ h
end Sk

set_option Elab.async false
set_option linter.all false
set_option maxRecDepth 100000
set_option maxHeartbeats 1000000
namespace Sk
open PySem L2 Evl
/-! ### integers of some hundred binary digits, as numbers -/
theorem size_sm {p : Nat} (h : p ≤ 2 ^ 13) : (toT (p : Int)).size ≤ 127 := by
  rw [size_toT]
  have h1 := naf_len 13 (p : Int) 0 (by simpa using h)
  have h2 := sum_all ((naf (p : Int) 0).map (·.2)) (fun q : Nat => (toT (q : Int)).size) 9 fun q hq => by
    obtain ⟨x, hx, rfl⟩ := List.mem_map.mp hq
    exact sz14 x.2 (Nat.lt_succ_of_le (naf_le (m := 13) (by simpa using h) hx))
  rw [List.length_map] at h2
  omega
def Big (n : Int) : Prop := n.natAbs ≤ 2 ^ 512
theorem big_cb {n : Int} (h : Big n) : n.natAbs < Cb 7 := lt_Cb7 (k := 513) (Nat.lt_of_le_of_lt h (Nat.pow_lt_pow_right (by decide) (by decide))) (by decide)
theorem big_len {n : Int} (h : Big n) : (toT n).toL.length ≤ 513 := toT_len (k := 512) h
theorem big_mem {n : Int} (h : Big n) {x : Int × T} (hx : x ∈ (toT n).toL) : ∃ q : Nat, q ≤ 512 ∧ x.2 = toT (q : Int) ∧ (x.1 = 1 ∨ x.1 = -1) := by
  rw [toL_toT] at hx
  obtain ⟨y, hy, rfl⟩ := List.mem_map.mp hx
  exact ⟨y.2, naf_le h (List.mem_reverse.mp hy), rfl, naf_sign (List.mem_reverse.mp hy)⟩
theorem big_of {q : Nat} (h : q ≤ 512) : Big (q : Int) := by
  unfold Big
  refine Nat.le_trans ?_ (Nat.le_of_lt (Nat.lt_two_pow_self (n := 512)))
  omega
theorem big_small {n : Int} (h : n.natAbs ≤ 512) : Big n := Nat.le_trans h (Nat.le_of_lt Nat.lt_two_pow_self)
theorem big_size {n : Int} (h : Big n) : (toT n).size < 70000 := by
  rw [size_toT]
  have h1 := naf_len 512 n 0 h
  have h2 := sum_all ((naf n 0).map (·.2)) (fun q : Nat => (toT (q : Int)).size) 127 fun q hq => by
    obtain ⟨x, hx, rfl⟩ := List.mem_map.mp hq
    exact size_sm (Nat.le_trans (naf_le h hx) (by decide))
  rw [List.length_map] at h2
  omega
theorem big_ok {n : Int} (h : Big n) : PlOk (toT n) :=
  ⟨toT_can n, Nat.le_trans (height_toT 6 n (big_cb h)) (by decide), Nat.lt_trans (big_size h) (by decide), Nat.le_trans (big_len h) (by decide), fun x hx => by
    obtain ⟨q, hq, e, _⟩ := big_mem h hx
    rw [e]
    have := big_len (big_of hq)
    omega⟩
theorem big_sub {n : Int} (h : Big n) : ∀ x ∈ (toT n).toL, PlOk x.2 := fun x hx => by
  obtain ⟨q, hq, e, _⟩ := big_mem h hx
  rw [e]
  exact big_ok (big_of hq)
/-- 2^a x, its places moved by p -/
theorem shL_int (x : Int) (a : Nat) (p : Int) (h : 0 ≤ (a : Int) + p) : ofL (shL p (toT (2 ^ a * x)).toL) = toT (2 ^ ((a : Int) + p).toNat * x) := by
  rw [toT_eq (2 ^ ((a : Int) + p).toNat * x), toL_toT, naf_shift, naf_shift]
  have key : ∀ (n : Int) (k : Nat), n.natAbs ≤ k → ∀ (i : Nat) , (naf n (i + a)).map (fun x => (x.1, toT ((x.2 : Int) + p))) = (naf n (i + ((a : Int) + p).toNat)).map fun x => (x.1, toT (x.2 : Int)) := by
    intro n k
    induction k generalizing n with
    | zero =>
      intro hn i
      have : n = 0 := by omega
      subst this
      rw [naf_zero, naf_zero] <;> rfl
    | succ k ih =>
      intro hn i
      by_cases h0 : n = 0
      · subst h0; rw [naf_zero, naf_zero] <;> rfl
      rcases Int.emod_two_eq n with e | e
      · rw [naf_even e, naf_even e]
        have := ih (n / 2) (by omega) (i + 1)
        rw [show i + 1 + a = i + a + 1 by omega, show i + 1 + ((a : Int) + p).toNat = i + ((a : Int) + p).toNat + 1 by omega] at this
        exact this
      · rw [naf_odd e, naf_odd e, List.map_cons, List.map_cons]
        congr 1
        · show (2 - n % 4, toT (((i + a : Nat) : Int) + p)) = (2 - n % 4, toT ((i + ((a : Int) + p).toNat : Nat) : Int))
          congr 2
          omega
        · by_cases hz : (n - (2 - n % 4)) / 2 = 0
          · rw [hz, naf_zero, naf_zero] <;> rfl
          have := ih ((n - (2 - n % 4)) / 2) (by omega) (i + 1)
          rw [show i + 1 + a = i + a + 1 by omega, show i + 1 + ((a : Int) + p).toNat = i + ((a : Int) + p).toNat + 1 by omega] at this
          exact this
  have hk := key x _ (Nat.le_refl _) 0
  have e : shL p ((naf x (0 + a)).reverse.map fun x : Int × Nat => (x.1, toT (x.2 : Int))) = ((naf x (0 + a)).map fun x => (x.1, toT ((x.2 : Int) + p))).reverse := by
    unfold shL
    rw [List.map_map, ← List.map_reverse]
    refine List.map_congr_left fun y _ => ?_
    show (y.1, toT ((toT (y.2 : Int)).val + p)) = _
    rw [toT_val]
  rw [e, hk, List.map_reverse]
/-- the odd part and the power of two in it -/
theorem odd_part5 : ∀ (k : Nat) (n : Int), n.natAbs ≤ k → n ≠ 0 → ∃ (a : Nat) (m : Int), n = 2 ^ a * m ∧ m % 2 = 1 ∧ a ≤ k
  | 0, n, h, h0 => by omega
  | k + 1, n, h, h0 => by
    rcases Int.emod_two_eq n with e | e
    · obtain ⟨a, m, h1, h2, h3⟩ := odd_part5 k (n / 2) (by omega) (by omega)
      refine ⟨a + 1, m, ?_, h2, by omega⟩
      rw [Int.pow_succ, Int.mul_comm (2 ^ a) 2, Int.mul_assoc, ← h1]
      omega
    · exact ⟨0, n, by simp, e, by omega⟩
theorem odd_uniq {a b : Nat} {m n : Int} (h : (2 : Int) ^ a * m = 2 ^ b * n) (hm : m % 2 = 1) (hn : n % 2 = 1) : a = b ∧ m = n := by
  have key : ∀ (a b : Nat) (m n : Int), a ≤ b → (2 : Int) ^ a * m = 2 ^ b * n → m % 2 = 1 → a = b ∧ m = n := by
    intro a b m n hab h hm
    obtain ⟨c, rfl⟩ : ∃ c, b = a + c := ⟨b - a, by omega⟩
    rw [Int.pow_add, Int.mul_assoc] at h
    have h2 : m = 2 ^ c * n := Int.eq_of_mul_eq_mul_left (Int.ne_of_gt (Int.pow_pos (by decide))) h
    cases c with
    | zero => exact ⟨rfl, by rw [h2, Int.pow_zero, Int.one_mul]⟩
    | succ c =>
      rw [Int.pow_succ, Int.mul_comm (2 ^ c) 2, Int.mul_assoc] at h2
      omega
  rcases Nat.le_total a b with hab | hab
  · exact key a b m n hab h hm
  · obtain ⟨h1, h2⟩ := key b a n m hab h.symm hn
    exact ⟨h1.symm, h2.symm⟩
/-- the last term of a number -/
theorem last_term {a : Nat} {m : Int} (hm : m % 2 = 1) : (toT (2 ^ a * m)).toL[(toT (2 ^ a * m)).toL.length - 1]? = some (2 - m % 4, toT (a : Int)) := by
  rw [toL_toT, naf_shift, naf_odd hm]
  rw [List.reverse_cons, List.map_append, List.map_singleton]
  rw [List.length_append, List.length_singleton, Nat.add_sub_cancel, List.getElem?_append_right (Nat.le_refl _), Nat.sub_self]
  rw [Nat.zero_add]
  rfl
end Sk


set_option Elab.async false
set_option linter.all false
set_option maxRecDepth 100000
set_option maxHeartbeats 2000000
namespace Sk
open PySem L2 Evl
/-! ### has_form, check_number -/
noncomputable def canB (t : T) : Bool := @decide t.can (Classical.propDecidable _)
theorem canB_iff {t : T} : canB t = true ↔ t.can := @decide_eq_true_iff _ (Classical.propDecidable _)
def pHasForm (K : PySem.W.Frag) (d : Nat) : V → Hp → VP → Prop := fun x H R => ∃ t : T, NumV K H x t ∧ t.height < d ∧ t.height ≤ 40 ∧ t.size ≤ 300 ∧ R = fun v _ => v = .bl (canB t)
def sp_has_form (K : PySem.W.Frag) (d : Nat) : Sp := spF1 (pHasForm K d)
def pCheck (K : PySem.W.Frag) (CN : Addr) : V → Hp → VP → WP → Prop := fun x H R W => ∃ t : T, NumV K H x t ∧ t.szk ∧ (t.fits ∧ t.can → ∀ H', R .non H') ∧ (¬ (t.fits ∧ t.can) → W CN)
def sp_check_number (K : PySem.W.Frag) (CN : Addr) : Sp := spX1 K (pCheck K CN)
def t_check_number (K : PySem.W.Frag) (a_NotAllowed : Addr) (E : XK) : TS := (tIfS (tOr (tNot (tB (tCall (sp_is_allowed K) [] E0 (tCons (tVar 0) tNil)))) (tNot (tB (tCall (sp_has_form K 45) [] E0 (tCons (tVar 0) tNil))))) (tRaise K E a_NotAllowed) tNext)
theorem pure_check_number {K : PySem.W.Frag} {CN : Addr} {vs : List V} {H : Hp} {Q : VK} {E : XK} (h : sp_check_number K CN vs H Q E) : t_check_number K CN E { nx := fun _ H' => Q .non H', rt := Q } (start ["number"] vs) H := by
  obtain ⟨x, R, W, rfl, ⟨t, hx, hsz, hR, hW⟩, k, kx⟩ := h
  refine s_when (b := !decide t.fits || !canB t) (et_is (et_or (a := !decide t.fits) (b := !decide t.fits || !canB t) (et_not (et_B (ev_er (er_call1 (R1 := fun v H => NumV K H v t) (er_var rfl fun H1 e1 => hx.ex e1) numT.mono fun v H1 e1 h1 => ⟨t, h1, hsz, rfl⟩)))) fun hf => ?_) ?_) (fun hc H1 e1 => ?_) (fun hc H1 e1 => ?_)
  · have hf' : t.fits := by simpa using hf
    rw [decide_eq_true hf']
    exact et_not (et_B (ev_er (er_call1 (R1 := fun v H => NumV K H v t) (er_var rfl fun H1 e1 => hx.ex e1) numT.mono fun v H1 e1 h1 => ⟨t, h1, by have := hf'.2; omega, hf'.2, hf'.1, rfl⟩)))
  · cases decide t.fits <;> cases canB t <;> rfl
  · refine fun Hz ez => kx CN Hz (e1.trans ez) (hW fun ⟨g1, g2⟩ => ?_)
    rw [decide_eq_true g1, canB_iff.mpr g2] at hc
    cases hc
  · refine k _ H1 e1 (hR ?_ _)
    rw [Bool.or_eq_false_iff] at hc
    exact ⟨by simpa using hc.1, canB_iff.mp (by simpa using hc.2)⟩
theorem ev_suite {K : PySem.W.Frag} {CN : Addr} {σ : L2.St} {H : Hp} {a d a_Missing a_ReckonError a_TooLarge : Addr} (hR : PySem.W.kitOne K (.ref CN) (.ref a_ReckonError) = some true) (hA : PySem.W.kitAny K (.ref CN) [.ref a_Missing, .ref a_TooLarge] = some false) (hd : ErrAt K CN d H) (hv : σ[2]? = some (some (.ref a))) :
    Ev (tAndV (tCB (rIsEc K CN a (.ref CN) (some d)) (tCons (tVar 2) (tCons (tC (.ref a_ReckonError)) tNil))) (tNotV (tCB (rIsETc K CN a (.ref CN) (some d)) (tCons (tVar 2) (tCons (tTup (tCons (tC (.ref a_Missing)) (tCons (tC (.ref a_TooLarge)) tNil))) tNil))))) σ H (.bl true) := by
  refine ev_is (v := .bl (true && !false)) (ev_andV (a := true) ?_ fun _ => ev_notV ?_) rfl
  · exact ev_cb (ea_cons (ev_var hv) (ea_cons ev_c ea_nil)) fun H1 e1 Q q => ⟨(hd.ex e1).cau, .ref a_ReckonError, .ref a_ReckonError, true, rfl, fun u r => r, hR, q H1 (Ex.refl _)⟩
  · have hea : EA (tCons (tVar 2) (tCons (tTup (tCons (tC (.ref a_Missing)) (tCons (tC (.ref a_TooLarge)) tNil))) tNil)) σ H (fun vs H2 => ∃ v w, vs = [v, w] ∧ v = .ref a ∧ ∃ p vs', w = .ref p ∧ H2 p = some (.tup vs') ∧ vs' = [.ref a_Missing, .ref a_TooLarge]) :=
      ea_two (R := fun v _ => v = .ref a) (R' := fun w H2 => ∃ p vs', w = .ref p ∧ H2 p = some (.tup vs') ∧ vs' = [.ref a_Missing, .ref a_TooLarge]) (er_is (ev_var hv)) monoC
        (er_tup (RA := fun vs' _ => vs' = [.ref a_Missing, .ref a_TooLarge]) (ea_ev (ea_cons ev_c (ea_cons ev_c ea_nil))) (fun _ _ _ _ h => h) fun vs H2 h => by rw [h]; show 2 ≤ 100000; omega) fun v Ha Hb e ⟨p, vs', g1, g2, g3⟩ => ⟨p, vs', g1, e p _ g2, g3⟩
    exact fun H1 e1 Q q => hea H1 e1 _ fun vs H2 e2 ⟨v, w, h1, h2, p, vs', h3, h4, h5⟩ => by
      subst h1 h2 h3 h5
      exact ⟨(hd.ex (e1.trans e2)).cau, p, _, [.ref a_Missing, .ref a_TooLarge], false, rfl, h4, .cons (.own _) (.cons (.own _) .nil), hA, q H2 e2⟩
theorem vac_has_form {K : PySem.W.Frag} {vs : List V} {H : Hp} {Q : VK} {E : XK} (h : sp_has_form K 0 vs H Q E) : False := by obtain ⟨x, R, _, ⟨t, _, h, _⟩, _⟩ := h; exact Nat.not_lt_zero _ h
end Sk

set_option Elab.async false
set_option linter.all false
set_option maxRecDepth 100000
set_option maxHeartbeats 2000000
namespace Sk
open PySem L2 Evl
section
variable {K : PySem.W.Frag} {σ : L2.St} {H : Hp} {te tf : TE} {ta : TA} {g : TG} {vs : List Nat}
/-- [a, b] != [a, b] -/
theorem ev_neL {a b : Int} (h1 : EvL te σ H [.int a, .int b]) (h2 : EvL tf σ H [.int a, .int b]) : Ev (tOp (rNeD K) te tf) σ H (.bl false) := fun H1 e Q q =>
  h1 H1 e _ fun p1 H2 _ e2 g1 => h2 H2 (e.trans e2) _ fun p2 H3 _ e3 g2 => by
    refine ⟨.list [.int a, .int b], .list [.int a, .int b], .lst (sq_of (e3 p1 _ g1)) (.cons (.int _) (.cons (.int _) .nil)), .lst (sq_of g2) (.cons (.int _) (.cons (.int _) .nil)), by rfl, by rfl, ?_⟩
    rw [show PyData.eqv (.list [.int a, .int b]) (.list [.int a, .int b]) = true from SeqAt.eqv_refl _ (by rfl)]
    exact q H3 (e2.trans e3)
end
theorem er_lawOf20 {K : PySem.W.Frag} {σ : L2.St} {H : Hp} {te : TE} (h : ER te σ H (IntR fun i => 1 ≤ i ∧ i ≤ 1 + 1008 * 1009)) : ER (tCall (sp_law_of K 7) [] E0 (tCons te tNil)) σ H (fun v H2 => ∃ n : Nat, (0 < n ∧ n < 2 ^ 20) ∧ NumV K H2 v (toT (n : Int))) :=
  er_call (ea_one h intR) fun vs H1 e ⟨v, hv, i, hi, hp⟩ Q E q => by
    obtain ⟨n, rfl⟩ := Int.eq_ofNat_of_zero_le (show 0 ≤ i by omega)
    have h20 : (2 : Nat) ^ 20 = 1048576 := by decide
    have hn : n < 2 ^ 20 := by omega
    refine ⟨v, _, hv, ⟨n, hi, lt_Cb7 (k := 20) (by simpa using hn) (by decide), by decide, ?_, rfl⟩, fun w H2 e2 hw => q w H2 e2 ⟨n, by omega, hw⟩⟩
    have h2 : (2 : Nat) ^ 20 ≤ 2 ^ 3090 := Nat.pow_le_pow_right (by decide) (by decide)
    refine Nat.le_trans ?_ h2
    simpa using Nat.le_of_lt hn
theorem sm_ofL : ∀ {l : List (Int × T)}, (∀ x ∈ l, (x.1.natAbs ≤ 3 ∧ x.2.toL.length < 100000) ∧ x.2.sm) → (ofL l).sm
  | [], _ => True.intro
  | (s, e) :: r, h => ⟨(h (s, e) List.mem_cons_self).1, (h (s, e) List.mem_cons_self).2, sm_ofL fun x hx => h x (List.mem_cons_of_mem _ hx)⟩
theorem Spo.facts {l : List (Int × T)} (h : Spo l) : (ofL l).sm ∧ (ofL l).fits ∧ (ofL l).height ≤ 8 ∧ (ofL l).size ≤ 251 ∧ ((ofL l).lgood none = true ↔ (ofL l).fits ∧ (ofL l).can) := by
  have hz : (ofL l).size ≤ 251 := by
    rw [size_ofL]
    have := h.sz
    omega
  have hh : (ofL l).height ≤ 8 := height_ofL _ _ fun x hx => Nat.succ_le_succ (h.ok x hx).ht
  have hf : (ofL l).fits := ⟨by omega, by omega⟩
  refine ⟨sm_ofL fun x hx => ⟨⟨(h.ok x hx).sg, by have := (h.ok x hx).sz; have := len_size x.2; omega⟩, (h.ok x hx).sm⟩, hf, hh, hz, fun hg => ⟨hf, (lgood_can hg).1⟩, fun ⟨_, hc⟩ => can_lgood hc (fun x hx => ?_) fun b0 q => by cases q⟩
  have hx' := hx
  rw [toL_ofL] at hx'
  exact (h.ok x hx').le (can_mem hc x hx)
theorem tow_facts : ∀ n : Nat, (towT n).can ∧ 0 ≤ (towT n).val ∧ (towT n).size = n + 1 ∧ (towT n).height = n
  | 0 => ⟨True.intro, Int.le_refl _, rfl, rfl⟩
  | n + 1 => by
    obtain ⟨h1, h2, h3, h4⟩ := tow_facts n
    refine ⟨⟨⟨.inl rfl, h2, h2⟩, h1, True.intro⟩, ?_, ?_, ?_⟩
    · show 0 ≤ 1 * 2 ^ (towT n).val.toNat + T.nil.val
      have : (0 : Int) < 2 ^ (towT n).val.toNat := Int.pow_pos (by decide)
      show 0 ≤ 1 * 2 ^ (towT n).val.toNat + 0
      omega
    · show (towT n).size + 1 = n + 1 + 1
      omega
    · show max ((towT n).height + 1) 0 = n + 1
      omega
/-- as many terms as are told, at even places -/
def wideT (many : Nat) : T := ofL ((List.range many).map fun i : Nat => ((1 : Int), toT (2 * ((many : Int) - 1 - (i : Int)))))
theorem wide_facts {many : Nat} (h : many < 80) : (wideT many).can ∧ (wideT many).size < 100000 ∧ (wideT many).height ≤ 7 := by
  refine ⟨can_ofL (fun x hx => ?_) ?_, ?_, height_ofL _ _ fun x hx => ?_⟩
  · obtain ⟨i, hi, rfl⟩ := List.mem_map.mp hx
    have := List.mem_range.mp hi
    exact ⟨.inl rfl, by show 0 ≤ (toT _).val; rw [toT_val]; omega, toT_can _⟩
  · rw [List.pairwise_map]
    refine List.pairwise_lt_range.imp fun {a b} hab => ?_
    show (toT _).val + 2 ≤ (toT _).val
    rw [toT_val, toT_val]
    omega
  · unfold wideT
    rw [size_ofL, List.map_map]
    have := sum_all (List.range many) (fun i : Nat => (toT (2 * ((many : Int) - 1 - (i : Int)))).size) 39 fun i hi => by
      have := List.mem_range.mp hi
      obtain ⟨m, hm⟩ := Int.eq_ofNat_of_zero_le (show 0 ≤ 2 * ((many : Int) - 1 - (i : Int)) by omega)
      rw [hm]
      exact sz2810 m (by omega)
    rw [List.length_range] at this
    have e : ((fun x : Int × T => x.2.size) ∘ fun i : Nat => ((1 : Int), toT (2 * ((many : Int) - 1 - (i : Int))))) = fun i : Nat => (toT (2 * ((many : Int) - 1 - (i : Int)))).size := rfl
    rw [e]
    omega
  · obtain ⟨i, hi, rfl⟩ := List.mem_map.mp hx
    have := List.mem_range.mp hi
    have h6 := height_toT 6 (2 * ((many : Int) - 1 - (i : Int))) (lt_Cb7 (k := 10) (by
      have : (2 : Nat) ^ 10 = 1024 := by decide
      omega) (by decide))
    exact Nat.succ_le_succ h6
section
variable {K : PySem.W.Frag} {σ : L2.St} {H : Hp} {te tf ta tb tn : TE} {P Q S : Int → Prop}
theorem er_mul (h : ER ta σ H (IntR P)) (h' : ER tb σ H (IntR Q)) (c : ∀ i j, P i → Q j → CMul i j) (k : ∀ i j, P i → Q j → S (i * j)) : ER (tOp xMul ta tb) σ H (IntR S) := fun H1 e R q =>
  h H1 e _ fun v H2 e2 ⟨i, hv, hi⟩ => h' H2 (e.trans e2) _ fun w H3 e3 ⟨j, hw, hj⟩ => ⟨i, j, hv, hw, c i j hi hj, q _ H3 (e2.trans e3) ⟨_, rfl, k i j hi hj⟩⟩
/-- a number of drawn counts -/
theorem er_drawn {k : Int} {m : Nat} (hx : ER tn σ H Pool) (ha : Ev ta σ H (.int k)) (hb : ER tb σ H (IntR fun i => 0 ≤ i ∧ i ≤ m)) (hm : m ≤ 5) : ER (tCall (sp_law_number K) [] E0 (tCons (tCall (sp_law_model K) [] E0 (tCons tn (tCons ta (tCons tb tNil)))) tNil)) σ H (fun v H2 => ∃ l t, NumV K H2 v t ∧ Mdl l t) := by
  have hmod : ER (tCall (sp_law_model K) [] E0 (tCons tn (tCons ta (tCons tb tNil)))) σ H (fun v H2 => ∃ n, n ≤ 5 ∧ CtsR n (3 * n) v H2) :=
    er_call (ea_three hx pool (er_is ha) monoC hb intR) fun vs H1 e ⟨v, w, z, hv, h1, h2, i, h3, h4⟩ Q E q => ⟨v, w, z, _, hv, ⟨k, i.toNat, h1, h2, by rw [h3]; exact congrArg V.int (by omega), by omega, rfl⟩, fun u H2 e2 hu => q u H2 e2 ⟨i.toNat, by omega, hu⟩⟩
  refine er_call (ea_one hmod (fun v Ha Hb e ⟨n, g1, g2⟩ => ⟨n, g1, ctsR _ _ _ _ _ e g2⟩)) fun vs H1 e ⟨v, hv, n, hn, d, l, h1, h2, h3, _⟩ Q E q => ⟨v, _, hv, ⟨d, l, n, 3 * n, h1, h2, h3, by omega, rfl⟩, fun u H2 e2 ⟨t, g1, g2⟩ => q u H2 e2 ⟨l, t, g1, g2⟩⟩
end
end Sk

set_option Elab.async false
set_option linter.all false
set_option maxRecDepth 100000
set_option maxHeartbeats 1000000
namespace Sk
open PySem L2 Evl PySem.Spec PyProof.Rows
/-! ### C.m(e, ..), m a def of the class at C -/
def tCFn (C : Addr) (sp : Sp) (E : XK) (t : TA) : TE := fun σ H Q => t σ H fun vs H2 => sp vs H2 Q E
section
variable {X : Cx} {CX : CXT} {k : Nat} {C g : Addr} {fd : FuncData} {ps : List Str} {mc : Value} {sp : Sp} {E : XK} {e : Expr} {es : List Expr} {x m : Str} {pos apos p : Pos} {t : TA} {pl : Sem Bool}
theorem pe_cfn (hg : Gl X x) (hm : X.mg x = some (.ref C)) (r : ClX.CRead X.K C mc) (c : ClX.CVal X.K C mc m (.ref g) (.ref g)) (kp : PySem.W.keepIn X.K (.ref g) = true) (F : FnOk X.prog X.w X.K X.mg X.base CX k g fd ps sp) (hr : Room k X.A) (hb : Binds X.K fd ps []) (hx : Passes CX X E) (ha : PA X (e :: es) t)
    (hdb : (x == ("__debug__" : Str)) = false := by decide)
    (hst : starEach (e :: es) X.env = (false, eval e X.env) :: starEach es X.env := by rfl) (hpl : (backTo pos (starEach es X.env)).any (·.1) = false := by rfl)
    (ht : eval (.Call (.Attribute (.Name x p) m apos) (e :: es) [] pos) X.env = (do
      let ov ← eval (.Name x p) X.env
      standAt apos.atName
      let (f, first) ← holding [ov] (getMethod ov m pl)
      callWith pos f first (backTo pos (starEach (e :: es) X.env)) (backToKw pos (keywordEach [] X.env))) := by rfl) :
    PE X (.Call (.Attribute (.Name x p) m apos) (e :: es) [] pos) (tCFn C sp E t) := by
  refine ⟨fun pins s σ H Q I h => ?_⟩
  refine PySem.W.methodCall_KW (pl := pl) (ld_glob I hg hm ?_ hdb) ht
  refine PySem.W.method_cls (I.tok _).kIn r.ga (ClX.getcval_ok (I.tok _) r c fun s2 I2 => ?_)
  refine PySem.W.callWith_K (h₀ := X.base) I.ok.mod.kin kp (thn (ha.run pos pins s2 σ H _ I2 h) fun us s1 ⟨vs, H1, I1, r, q⟩ => ⟨I1.kIn, ?_⟩) hst hpl
  exact run_fn F hr hb .nil hx I1 r (by rw [List.append_nil]; exact q)
end
/-- ReckonError.__init__(self, why, word) -/
def sp_rinit (K : PySem.W.Frag) : Sp := fun vs H Q _ => ∃ (a C : Addr) (u : V) (w : Str), vs = [.ref a, u, .str w] ∧ OexC K C ∧ PySem.W.findIn K (.ref C) "word" = some none ∧ H a = some (exo a C none) ∧ ∀ dx, H dx = none → dx ≠ a → Q .non (upd (upd H dx (exd dx [("word", .str w)])) a (exo a C (some dx)))
def t_rinit (K : PySem.W.Frag) : TS := tSeq (tDrop (tVeI K (tCons (tVar 0) (tCons (tVar 1) tNil)))) (tOst K "word" (tVar 0) (tVar 2))
theorem pure_rinit {K : PySem.W.Frag} {vs : List V} {H : Hp} {Q : VK} {E : XK} (h : sp_rinit K vs H Q E) : t_rinit K { nx := fun _ H' => Q .non H', rt := Q } (start ["self", "why", "word"] vs) H := by
  obtain ⟨a, C, u, w, rfl, T, hw, ha, k⟩ := h
  refine ⟨.ref a, rfl, u, rfl, a, C, [u], rfl, (by show 1 ≤ 1000; omega), T, ha, ?_⟩
  exact ⟨.str w, rfl, .ref a, rfl, a, C, rfl, T, hw, .inl ⟨ha, fun dx h1 h2 => k dx h1 h2⟩⟩
/-- X.__init__(self, why) -/
def sp_cinit (K : PySem.W.Frag) (w : Str) : Sp := fun vs H Q _ => ∃ (a C : Addr) (u : V), vs = [.ref a, u] ∧ OexC K C ∧ PySem.W.findIn K (.ref C) "word" = some none ∧ H a = some (exo a C none) ∧ ∀ dx, H dx = none → dx ≠ a → Q .non (upd (upd H dx (exd dx [("word", .str w)])) a (exo a C (some dx)))
def t_cinit (K : PySem.W.Frag) (aR : Addr) (w : Str) : TS := tDrop (tCFn aR (sp_rinit K) E0 (tCons (tVar 0) (tCons (tVar 1) (tCons (tC (.str w)) tNil))))
theorem pure_cinit {K : PySem.W.Frag} {aR : Addr} {w : Str} {vs : List V} {H : Hp} {Q : VK} {E : XK} (h : sp_cinit K w vs H Q E) : t_cinit K aR w { nx := fun _ H' => Q .non H', rt := Q } (start ["self", "why"] vs) H := by
  obtain ⟨a, C, u, rfl, T, hw, ha, k⟩ := h
  exact ⟨.ref a, rfl, u, rfl, a, C, u, w, rfl, T, hw, ha, fun dx h1 h2 => k dx h1 h2⟩
/-- an own error class that is raised: how it is made -/
structure ErrC (P : Program) (w : World) (K : PySem.W.Frag) (mg : Str → Option Value) (base : Heap) (x : Str) (C : Addr) : Prop where
  m : mg x = some (.ref C)
  T : OexC K C
  nm : nameIn K C = some x
  hw : PySem.W.findIn K (.ref C) "word" = some none
  i : ∃ (fI : Addr) (fd : FuncData), PySem.W.findIn K (.ref C) "__init__" = some (some (.ref fI)) ∧ PySem.W.typeIn K (.ref fI) = some (.type "function") ∧ Binds K fd ["self", "why"] [] ∧ FnOk P w K mg base CX0 2 fI fd ["self", "why"] (sp_cinit K (wordOf x))
section
variable {X : Cx} {C : Addr} {x m : Str} {j : Nat} {p p2 pos pos' : Pos}
theorem pmk_err (T : ErrC X.prog X.w X.K X.mg X.base x C) (hr : Room 3 X.A) (hg : Gl X x) (hdb : (x == ("__debug__" : Str)) = false := by decide) :
    PMk X (.Call (.Name x p) [.Constant (.str m) j p2] [] pos) (fun _ H Q => ∀ H', Ex H H' → ∀ d, ErrAt X.K C d H' → Q (.ref C) (some d) H') := by
  obtain ⟨fI, fd, h1, h2, h3, F⟩ := T.i
  intro pins s σ H Q I h
  refine pmk_oex T.T h1 h2 F hr h3 .nil (fun _ _ _ _ _ _ _ h => h.elim) hg T.m (pa_cons (pe_str (x := m)) pa_nil) hdb rfl rfl pins s σ H Q I ?_
  refine ⟨(by show 1 ≤ 1000; omega), fun a ha => ⟨a, C, .str m, rfl, T.T, T.hw, upd_same, fun dx hd hne => ⟨rfl, dx, [("word", .str (wordOf x))], upd_same, ?_, ?_, ?_⟩⟩⟩
  · rw [upd_ne hne, upd_same]
  · rw [upd_ne hne] at hd; exact hd
  · rw [upd_ne hne] at hd
    refine h _ (fun b o hb => ?_) dx ⟨x, T.nm, upd_same⟩
    have hb1 : b ≠ dx := fun z => by rw [z, hd] at hb; cases hb
    have hb2 : b ≠ a := fun z => by rw [z, ha] at hb; cases hb
    rw [upd_ne hb1, del_ne hb2, upd_ne hb2, upd_ne hb1, upd_ne hb2]
    exact hb
theorem ps_err {E : XK} {W : WX} (hc : X.calm = true) (tk : Takes X W) (hW : W = fun cls d _ H => E cls d H) (T : ErrC X.prog X.w X.K X.mg X.base x C) (hr : Room 3 X.A) (hg : Gl X x) (hdb : (x == ("__debug__" : Str)) = false := by decide) :
    PS X (.Raise (some (.Call (.Name x p) [.Constant (.str m) j p2] [] pos)) none pos') (tRaise X.K E C) := by
  subst hW
  exact ps_raise hc tk (pmk_err T hr hg hdb)
end
/-! ### what the text says of the errors' classes -/
section
variable {P : Program} {w : World} {K : PySem.W.Frag} {mg : Str → Option Value} {base : Heap} {x qual : Str} {st : Stmt} {f T C : Addr} {oc oc2 : Value} {od od2 an : Option Addr} {osl osl2 : Array (Option Value)} {kV doc pm cdv ct : Value} {n : Nat} {tk tk2 : Tok} {e1 e2 : Str}
theorem init_mk1 (hl : K.lookup f = some ⟨oc, od, .func (PySem.W.fnOf x qual (defArgs st) (defBody st) (defScope st) (.ref T) kV doc pm an cdv ct), osl⟩) (hT : K.lookup T = some ⟨oc2, od2, .seq #[.str e1 tk] n, osl2⟩) (hc : PySem.W.codeIn K cdv qual = true) (hk : PySem.W.keepIn K (.ref f) = true) :
    FunD K x qual (defArgs st) (defBody st) (defScope st) [.str e1] [] f (PySem.W.fnOf x qual (defArgs st) (defBody st) (defScope st) (.ref T) kV doc pm an cdv ct) :=
  ⟨⟨oc, od, _, kV, doc, pm, an, cdv, ct, osl, rfl, hl, hc, .inr ⟨by simp, T, _, [.str e1 tk], n, rfl, hT, rfl, .cons ⟨tk, rfl⟩ .nil⟩, .inl rfl⟩, hk⟩
theorem init_mk2 (hl : K.lookup f = some ⟨oc, od, .func (PySem.W.fnOf x qual (defArgs st) (defBody st) (defScope st) (.ref T) kV doc pm an cdv ct), osl⟩) (hT : K.lookup T = some ⟨oc2, od2, .seq #[.str e1 tk, .str e2 tk2] n, osl2⟩) (hc : PySem.W.codeIn K cdv qual = true) (hk : PySem.W.keepIn K (.ref f) = true) :
    FunD K x qual (defArgs st) (defBody st) (defScope st) [.str e1, .str e2] [] f (PySem.W.fnOf x qual (defArgs st) (defBody st) (defScope st) (.ref T) kV doc pm an cdv ct) :=
  ⟨⟨oc, od, _, kV, doc, pm, an, cdv, ct, osl, rfl, hl, hc, .inr ⟨by simp, T, _, [.str e1 tk, .str e2 tk2], n, rfl, hT, rfl, .cons ⟨tk, rfl⟩ (.cons ⟨tk2, rfl⟩ .nil)⟩, .inl rfl⟩, hk⟩
theorem binds_full {l : List V} {fd : FuncData} {ps : List Str} (h : ∃ ds, Vals l ds ∧ Binds K fd ps ds) (hl : l = []) : Binds K fd ps [] := by
  subst hl
  obtain ⟨ds, h1, h2⟩ := h
  cases h1
  exact h2
theorem oex_mk {nm q : Str} {N : Addr} {bs bm sub : List Value} {sn : List Str} {ab : Bool} {col : Option Bool} {dd : Option Addr} {k0 k1 k2 k3 k5 : Option Value} (hl : K.lookup C = some (excClassObj nm q C N bs bm true sn sub ab col dd k0 k1 k2 k3 k5 "ValueError.__new__")) (hr : PySem.HandSPX.refsVE bm = true)
    (sa : PySem.W.findIn K (.ref C) "__setattr__" = some (some (.builtin "object.__setattr__"))) (A : ClsAt K mg x C) : OexC K C ∧ nameIn K C = some nm :=
  ⟨⟨⟨_, _, _, _, _, _, _, _, _, _, _, _, _, _, _, hl, hr⟩, sa, A.sb, A.ty, A.k⟩, by unfold nameIn PySem.W.clsIn; rw [hl] <;> rfl⟩
end
end Sk

set_option Elab.async false
set_option linter.all false
set_option maxRecDepth 100000
set_option maxHeartbeats 1000000
namespace Sk
open PySem PySem.Spec PyProof.Rows L2
/-! ### a comprehension while an exception is handled -/
section
variable {prog : Program} {w : World} {A : Around} {E : Value → Shared → Prop} {s : Shared}
theorem hot_ne {x1 it : Addr} {o : Obj} {vs : Array Value} (hot : HotX.HotAt A x1 s.heap) (ho : s.heap.get? it = some o) (hd : o.data = .fields vs) (hv : vs[2]? = none) : x1 ≠ it := by
  intro z
  obtain ⟨_, o1, v1, h1, d1, c1⟩ := hot
  rw [z, ho] at h1
  cases h1
  rw [hd] at d1
  cases d1
  rw [hv] at c1
  cases c1
theorem hot_keep {x1 it : Addr} {h : Heap} {f : Obj → Obj} (hot : HotX.HotAt A x1 h) (hne : x1 ≠ it) : HotX.HotAt A x1 (h.update it f) := by
  obtain ⟨hh, o1, v1, h1, d1, c1⟩ := hot
  exact ⟨hh, o1, v1, by rw [Heap.get?_update_other _ _ hne.symm]; exact h1, d1, c1⟩
theorem stop_hot {x1 : Addr} {Qv : PySem.Fin → Shared → Prop} {Q : Option Value → Shared → Prop} (hot : HotX.HotAt A x1 s.heap) (hQ : ∀ g, (∀ b u, s.heap.get? b = some u → g.get? b = some u) → Q none { s with heap := g }) :
    wpAny (model prog w) (Around.in1 A) Builtin.SmallTypes.stopIteration Qv (fun e s' => wpAny (model prog w) A (do let b ← isInstance e (Value.type "StopIteration"); if b = true then pure none else throw e) Q E s') s := by
  obtain ⟨hh, o1, v1, h1, d1, c1⟩ := hot
  have keep2 : ∀ (o2 o3 : Obj) (b : Addr) (u : Obj), s.heap.get? b = some u → ((s.heap.push o2).push o3).get? b = some u := fun o2 o3 b u e => Heap.get?_push_of_some _ (Heap.get?_push_of_some _ e)
  unfold Builtin.SmallTypes.stopIteration
  refine wpAny_bind ?_
  simp only [newExc, newTuple]
  refine wpAny_bind (wpAny_newObj_type ?_ (by size_fits))
  refine wpAny_bind (m := firstArgMember _ _) (wpAny_of_eq (a := Value.none) (by first | rfl | (simp only [firstArgMember]; rfl)) ?_)
  refine wpAny_newObj_type ?_ (by size_fits)
  refine HotX.raiseNew_hot (x1 := x1) ⟨hh, o1, v1, keep2 _ _ _ _ h1, d1, c1⟩ (Nat.ne_of_lt (Heap.lt_size (Heap.get?_push_of_some _ h1))) (Heap.get?_push_size _ rfl) rfl (by first | (simp; done) | (simp; omega)) ?_
  refine wpAny_bind (wpAny_isInstance (b := true) (T := "StopIteration") ⟨_, Heap.get?_update_self _ (Heap.get?_push_size _ rfl) rfl, rfl⟩ isSubtype_stop (wpAny_pure (hQ _ fun b u e => ?_)))
  rw [Heap.get?_update_other _ _ (Nat.ne_of_gt (Heap.lt_size (Heap.get?_push_of_some _ e)))]
  exact keep2 _ _ b u e
theorem tupEnd_hot {it tp x1 : Addr} {j : Nat} {ws : Array Value} {Q : Option Value → Shared → Prop} (hot : HotX.HotAt A x1 s.heap) (hit : s.heap.IsTupleIter it tp j) (htp : s.heap.IsTuple tp ws) (hw : ws[j]? = none)
    (hQ : ∀ g, (∀ b u, b ≠ it → s.heap.get? b = some u → g.get? b = some u) → Q none { s with heap := g }) : wpAny (model prog w) A (pyNext (.ref it)) Q E s := by
  have hT := hit.typeIs
  obtain ⟨oi, hoi, _, hdi⟩ := hit
  obtain ⟨ot, hot2, _, nt, hdt⟩ := htp
  have hne : x1 ≠ it := hot_ne hot hoi hdi rfl
  unfold pyNext
  refine wpAny_bind (wpAny_attempt (wpAny_callSpecial?_slot (name := Str.ofString "__next__") hT F.slot_tuple_iterator_next (wpAny_call_entry F.slot_tuple_iterator_next hT F.entry_tuple_iterator_next ?_ (F.args_tuple_iterator_next_1 _))))
  show wpAny _ (Around.in1 A) (field (Value.ref it) 0 >>= _) _ _ s
  refine wpAny_bind (wpAny_field hoi hdi (x := .ref tp) rfl ?_)
  show wpAny _ (Around.in1 A) (if (Value.ref tp == Value.none) = true then _ else _) _ _ s
  have no : ¬ (Value.ref tp == Value.none) = true := fun z => Bool.noConfusion (show false = true from z)
  rw [if_neg no]
  show wpAny _ (Around.in1 A) (field (Value.ref it) 1 >>= _) _ _ s
  refine wpAny_bind (wpAny_field hoi hdi (x := .int j 0) rfl ?_)
  show wpAny _ (Around.in1 A) (seqItems? (Value.ref tp) >>= _) _ _ s
  refine wpAny_bind (wpAny_seqItems hot2 hdt ?_)
  simp only [Int.toNat_natCast, hw]
  refine wpAny_bind (wpAny_rule (wpAny_bind (wpAny_setField hoi hdi (by simp) ?_)))
  refine stop_hot (hot_keep hot hne) fun g hg => hQ g fun b u hb e => hg b u ?_
  show (s.heap.update it _).get? b = some u
  rw [Heap.get?_update_other _ _ (Ne.symm hb)]
  exact e
end
end Sk

set_option Elab.async false
set_option linter.all false
set_option maxRecDepth 100000
set_option maxHeartbeats 1000000
namespace Sk
open PySem PySem.Spec PyProof.Rows L2
section
variable {prog : Program} {w : World} {A : Around} {E : Value → Shared → Prop} {s : Shared}
theorem lstEnd_hot {it lp x1 : Addr} {j : Nat} {ws : Array Value} {Q : Option Value → Shared → Prop} (hot : HotX.HotAt A x1 s.heap) (hit : s.heap.IsListIter it lp j) (hlp : s.heap.IsList lp ws) (hw : ws[j]? = none)
    (hQ : ∀ g, (∀ b u, b ≠ it → s.heap.get? b = some u → g.get? b = some u) → Q none { s with heap := g }) : wpAny (model prog w) A (pyNext (.ref it)) Q E s := by
  have hT := hit.typeIs
  obtain ⟨oi, hoi, _, hdi⟩ := hit
  obtain ⟨ot, hot2, _, nt, hdt⟩ := hlp
  have hne : x1 ≠ it := hot_ne hot hoi hdi rfl
  have no : ¬ (Value.ref lp == Value.none) = true := fun z => Bool.noConfusion (show false = true from z)
  unfold pyNext
  refine wpAny_bind (wpAny_attempt (wpAny_callSpecial?_slot (name := Str.ofString "__next__") hT slot_listiter_next (wpAny_call_entry slot_listiter_next hT entry_listiter_next ?_ (args_listiter_next _))))
  show wpAny _ (Around.in1 A) (field (Value.ref it) 0 >>= _) _ _ s
  refine wpAny_bind (wpAny_field hoi hdi (x := .ref lp) rfl ?_)
  show wpAny _ (Around.in1 A) (if (Value.ref lp == Value.none) = true then _ else _) _ _ s
  rw [if_neg no]
  show wpAny _ (Around.in1 A) (field (Value.ref it) 1 >>= _) _ _ s
  refine wpAny_bind (wpAny_field hoi hdi (x := .int j 0) rfl ?_)
  show wpAny _ (Around.in1 A) (seqItems? (Value.ref lp) >>= _) _ _ s
  refine wpAny_bind (wpAny_seqItems hot2 hdt ?_)
  simp only [Int.toNat_natCast, hw]
  refine wpAny_bind (wpAny_rule (wpAny_bind (wpAny_setField hoi hdi (by simp) ?_)))
  refine stop_hot (hot_keep hot hne) fun g hg => hQ g fun b u hb e => hg b u ?_
  show (s.heap.update it _).get? b = some u
  rw [Heap.get?_update_other _ _ (Ne.symm hb)]
  exact e
/-- a list walked while x1 is handled -/
theorem walk_hot {x1 : Addr} {o1 : Obj} {vs1 : Array Value} (hh : A.handled = some (.ref x1)) (d1 : o1.data = .fields vs1) (c1 : vs1[2]? = some .none) (it lp : Addr) (hne : lp ≠ it) (ws : Array Value) :
    Walks prog w A it [it, lp, x1] [it] ws.size (fun j v => ws[j]? = some v) (fun j h => h.IsListIter it lp j ∧ h.IsList lp ws ∧ h.get? x1 = some o1) where
  sub := fun b hb => by
    rw [List.mem_singleton.mp hb]
    exact List.mem_cons_self
  frame := fun _ _ _ st hk => ⟨st.1.at fun u e => hk it (by simp) u e, st.2.1.at fun u e => hk lp (by simp) u e, hk x1 (by simp) _ st.2.2⟩
  item := fun j s Q E hj st hQ => by
    obtain ⟨s1, s2, s3⟩ := st
    have hx : x1 ≠ it := by
      obtain ⟨oi, hoi, _, hdi⟩ := id s1
      exact hot_ne (A := A) ⟨hh, o1, vs1, s3, d1, c1⟩ hoi hdi rfl
    refine wpAny_pyNext_list_item s1 s2 (x := ws[j]) (by simp [hj]) fun g hg sb => ?_
    exact hQ _ g s.toks (by simp [hj]) ⟨hg, s2.extBut sb.extBut hne, sb.extBut x1 _ hx s3⟩ fun b u hb e => sb.extBut b u (fun z => hb (by simp [z])) e
  done := fun s Q E st hQ => lstEnd_hot (x1 := x1) ⟨hh, o1, vs1, st.2.2, d1, c1⟩ st.1 st.2.1 (by simp) fun g hg => hQ g s.toks fun b u hb e => hg b u (fun z => hb (by simp [z])) e
  self := fun _ _ _ _ st hQ => wpAny_pyIter_listiter st.1 hQ
variable {lp x1 : Addr} {its : List Value} {ns : List Int} {Q : Value → Shared → Prop}
theorem iter_hot {x1 : Addr} {o1 : Obj} (h1 : s.heap.get? x1 = some o1) {xs : Array (Int × Tok)} {Q : Value → Shared → Prop} (hl : s.heap.IsList lp (intItems xs))
    (h : ∀ s2 : Shared, s2 = { s with heap := s.heap.push { cls := .type "list_iterator", data := .fields #[.ref lp, .int 0 0] } } → (s2.heap.IsListIter s.heap.objs.size lp 0 ∧ s2.heap.IsList lp (intItems xs) ∧ s2.heap.get? x1 = some o1) →
      (∀ b ∈ [s.heap.objs.size, lp, x1], b < s2.heap.objs.size) → lp ≠ s.heap.objs.size → Q (.ref s.heap.objs.size) s2) : wpAny (model prog w) A (pyIter (.ref lp)) Q E s :=
  iter_intList hl fun s2 e st hfp hne => h s2 e ⟨st.1, st.2, by rw [e]; exact Heap.get?_push_of_some _ h1⟩ (fun b hb => by
    rcases List.mem_cons.mp hb with q | hb
    · exact hfp b (by rw [q]; exact List.mem_cons_self)
    · rcases List.mem_cons.mp hb with q | hb
      · exact hfp b (by rw [q]; exact List.mem_cons_of_mem _ List.mem_cons_self)
      · rw [List.mem_singleton.mp hb, e]
        exact Heap.lt_size (Heap.get?_push_of_some _ h1)) hne
theorem sum_hot (hot : HotX.HotAt A x1 s.heap) (hl : s.heap.IsList lp its.toArray) (hi : IntsAre its ns)
    (h : ∀ g k t, (∀ b u, s.heap.get? b = some u → g.get? b = some u) → Q (.int ns.sum t) { s with heap := g, toks := k }) : wpAny (model prog w) A (call (.builtin "sum") [.ref lp]) Q E s := by
  obtain ⟨hh, o1, v1, h1, d1, c1⟩ := hot
  obtain ⟨xs, ex⟩ := hi.allInts.items
  have hns : numsOf (intItems xs).toList = ns := by rw [← ex]; exact hi.numsOf
  rw [nums_intItems] at hns
  rw [ex] at hl
  refine call_sum_walkG (iter_hot h1 hl fun s2 e st hfp hne => ?_)
  subst e
  refine ⟨_, _, _, _, _, _, numAt xs, rfl, walk_hot (A := A.in1) hh d1 c1 _ lp hne (intItems xs), st, hfp, fun _ _ => intItems_at, fun g k t hk => ?_⟩
  have key := h g k t (old_kept hk)
  rw [← hns] at key
  have hs : (intItems xs).size = xs.size := by simp [intItems]
  rw [hs, preSum_eq, List.take_of_length_le (by simp)]
  exact key
theorem max_hot (hot : HotX.HotAt A x1 s.heap) (hl : s.heap.IsList lp its.toArray) (hi : IntsAre its ns) (hne : 0 < ns.length)
    (h : ∀ g k m t, (∀ b u, s.heap.get? b = some u → g.get? b = some u) → m ∈ ns → (∀ a, a ∈ ns → a ≤ m) → Q (.int m t) { s with heap := g, toks := k }) : wpAny (model prog w) A (call (.builtin "max") [.ref lp]) Q E s := by
  obtain ⟨hh, o1, v1, h1, d1, c1⟩ := hot
  obtain ⟨xs, ex⟩ := hi.allInts.items
  have hns : numsOf (intItems xs).toList = ns := by rw [← ex]; exact hi.numsOf
  rw [nums_intItems] at hns
  subst hns
  rw [ex] at hl
  have hsz : 0 < xs.size := by simpa using hne
  have hs : (intItems xs).size = xs.size := by simp [intItems]
  refine call_max_walk (iter_hot h1 hl fun s2 e st hfp hneq => ?_)
  subst e
  refine ⟨_, _, _, _, _, _, _, rfl, walk_hot (A := A.in1) hh d1 c1 _ lp hneq (intItems xs), st, hfp, by rw [hs]; exact hsz, CmpOf.ints_gt (numAt xs) (fun _ _ => intItems_at), fun v g k hP hk => ?_⟩
  rw [hs] at hP
  obtain ⟨t, rfl⟩ := intItems_at hP
  obtain ⟨b1, b2⟩ := argBest_gt (numAt xs) (xs.size - 1)
  refine h g k _ t (old_kept hk) ?_ fun a ha => ?_
  · rw [numAt_eq]; exact PySem.getD_mem (by rw [List.length_map, Array.length_toList]; omega)
  · obtain ⟨i, hi', rfl⟩ := mem_getD ha
    rw [List.length_map, Array.length_toList] at hi'
    rw [← numAt_eq]; exact b2 i (by omega)
end
section
variable {X : Cx}
theorem cr_sumH (hc : L2H.HotC X) : CallR X (.builtin "sum") (rSum X.K) := by
  intro pins s σ H vs us Q I r h
  obtain ⟨a, ns, rfl, hs, q⟩ := h
  obtain ⟨its, rv, hl, _⟩ := I.list hs
  obtain ⟨x1, hot⟩ := hc.at I
  rw [Vals.ref1 r]
  exact sum_hot hot hl.isList rv.ints fun g k t hk => ⟨.int _, H, I.kept hk, ⟨_, rfl⟩, q⟩
theorem cr_maxH (hc : L2H.HotC X) : CallR X (.builtin "max") (rMax X.K) := by
  intro pins s σ H vs us Q I r h
  obtain ⟨a, ns, rfl, hs, hne, q⟩ := h
  obtain ⟨its, rv, hl, _⟩ := I.list hs
  obtain ⟨x1, hot⟩ := hc.at I
  rw [Vals.ref1 r]
  exact max_hot hot hl.isList rv.ints hne fun g k m t hk h1 h2 => ⟨.int _, H, I.kept hk, ⟨_, rfl⟩, q m h1 h2⟩
end
end Sk

set_option Elab.async false
set_option linter.all false
set_option maxRecDepth 100000
set_option maxHeartbeats 1000000
namespace Sk
open PySem PySem.Spec PyProof.Rows L2 L2H
theorem turn_tupleH {P : Program} {w : World} {K : PySem.W.Frag} {tg : Expr} (tp it : Addr) : TurnH P w K tg (Itt K tp) [it] it (fun j h => h.IsTupleIter it tp j) where
  mem := List.mem_cons_self
  obj := fun j h st b hb => by
    rw [List.mem_singleton.mp hb]
    obtain ⟨u, e, _, d⟩ := st
    exact ⟨u, e, fun v z => by rw [d] at z; cases z⟩
  keep := fun j h g st k => st.at fun u e => k it List.mem_cons_self u e
  item := by
    rintro X rfl rfl rfl hc j pins s σ H E I hf st ⟨ys, y, hy, hj⟩
    obtain ⟨its, rv, p, _⟩ := I.tuple hy
    obtain ⟨u, hu, ru⟩ := rv.get hj
    obtain ⟨f0, f1, _, f3, f4, f5⟩ := hf it List.mem_cons_self
    refine wpAny_pyNext_tuple_item st (show s.heap.IsTuple tp its.toArray from p) (x := u) (by simpa using hu) fun g sg sb => ?_
    have J : Inv X pins σ H { s with heap := g } := I.turned (t' := s.toks) (fun b v hb e => (sb.2 b hb).trans e) f0 f1 f3 f4 f5
    obtain ⟨v, e, c, d⟩ := id sg
    refine ⟨u, rfl, go_of (s := { s with heap := g }) e c d (by decide) ⟨y, H, J, ru, ⟨rfl, fun zs hz => ?_⟩, sg, fun b hb => (hf b hb).1⟩⟩
    rw [I.tuple_inj hz hy]
    exact hj
  done := by
    rintro X rfl rfl rfl hc j pins s σ H E I hf st ⟨ys, hy, hj⟩
    obtain ⟨its, rv, p, _⟩ := I.tuple hy
    obtain ⟨f0, f1, _, f3, f4, f5⟩ := hf it List.mem_cons_self
    obtain ⟨x1, hot⟩ := hc.at I
    have hl := rv.length
    exact tupEnd_hot hot st (show s.heap.IsTuple tp its.toArray from p) (by simp; omega) fun g hg => ⟨rfl, I.turned (t' := s.toks) hg f0 f1 f3 f4 f5⟩
  self := fun _ _ _ _ _ st h => wpAny_pyIter_tupleiter st h
section
variable {X : Cx} {tg : Expr}
theorem pi_tupH {l : Expr} {tl : TE} (hl : PE X l tl) : PIH X tg l (iTup X.K tl) := by
  refine ⟨fun pins s σ H R I h => thn (hl.run pins s σ H _ I h) fun v s1 ⟨x, H1, J, r1, tp, e, ⟨ys, hy⟩, q⟩ => ?_⟩
  subst e
  cases r1
  obtain ⟨its, rv, p, _⟩ := J.tuple hy
  refine wpAny_pyIter_tuple (show s1.heap.IsTuple tp its.toArray from p) ⟨s1.heap.objs.size, [s1.heap.objs.size], _, _, H1, rfl, J.kept (t' := s1.toks) fun b u e => Heap.get?_push_of_some _ e, turn_tupleH tp _, ⟨_, Heap.get?_push_size _ rfl, rfl, rfl⟩, fun b hb => ?_, q⟩
  rw [List.mem_singleton.mp hb]
  exact J.fpOk (Nat.le_refl _) (J.hok.fresh (Nat.le_refl _))
end
/-- a block's context that bears what its def's context bears -/
abbrev blkH (X : Cx) (s : Shared) (H : Hp) (scope : Scope) (cenv : Env) (fp : List Addr) : Cx := { X.blk s H scope cenv fp with pn := X.pn }
theorem okH {X : Cx} {s : Shared} {H : Hp} {scope : Scope} {cenv : Env} {fp : List Addr} (j : (X.blk s H scope cenv fp).Ok) : (blkH X s H scope cenv fp).Ok :=
  ⟨j.mod, j.kind, j.glob, j.blt, j.above, j.inj, j.has, j.cab, j.hd, j.frames, j.stk, j.exf, j.bs, j.bsz, j.noex, j.exfs, j.funs, j.frf⟩
section
variable {X : Cx} {pins : List (Addr × Obj)} {σ : L2.St} {H : Hp} {s : Shared}
theorem startH {scope : Scope} {own : List (Str × Nat)} {fp : List Addr} (I : Inv X pins σ H s) (ok : BlkOk X.N X.env.scope scope own) (hN : X.N.Nodup) (hfp : ∀ b ∈ fp, FpOk X pins H b ∧ b < s.heap.objs.size) :
    Inv (blkH X s H scope (compEnvC scope (cellsFrom (s.heap.objs.size + 1) scope.names (cloFrom X.env.cells scope.names [])) s.heap.objs.size X.env) fp) [] (wipe σ (own.map (·.2))) H { s with heap := pushCells (s.heap.push { cls := .type "dict", data := .dict #[] }) scope.names } := by
  have J := block_start I ok hN hfp
  refine ⟨okH J.ok, J.os, J.bare, J.base, J.loc, J.cell, J.free, J.freeC, fun p hp => ?_, J.hok, J.len⟩
  rw [List.append_nil] at hp
  obtain ⟨g1, g2, g3, g4, g5⟩ := I.pin p (List.mem_append_left _ hp)
  refine ⟨pushCells_keeps _ _ _ _ (Heap.get?_push_of_some _ g1), g2, Nat.ne_of_lt (Heap.lt_size g1), fun hm => ?_, g5⟩
  rcases List.mem_cons.mp (I.stkSub p.1 hm) with z | z
  · exact g3 z
  · exact g4 z
/-- a turn's objects in the block -/
theorem fpH {s3 : Shared} {H3 H' : Hp} {scope : Scope} {cenv : Env} {fp : List Addr} {σ' : L2.St} {s' : Shared} (f : ∀ b ∈ fp, FpOk X pins H3 b) (J : Inv (blkH X s3 H3 scope cenv fp) [] σ' H' s') (hn : ∀ b ∈ fp, H' b = none) : ∀ b ∈ fp, FpOk (blkH X s3 H3 scope cenv fp) [] H' b :=
  fun b hb => ⟨hn b hb, (J.ok.exf b hb).1, J.ok.exfs b hb, .inl hb, fun x c e => (J.ok.exf b hb).2 x c e, fun p hp => (f b hb).2.2.2.2.2 p (by
    rw [List.append_nil] at hp
    exact List.mem_append_left _ hp)⟩
end
section
variable {X : Cx}
/-- [elt for target in iter if ..] as a value, while an exception is handled -/
theorem pe_lcH {elt tg iter : Expr} {ifs : List Expr} {scope : Scope} {own : List (Str × Nat)} {pos : Pos} {wi : TI} {g : TG} {tt : TT} {te : TE} (hc : HotC X) (hN : X.N.Nodup) (hi : PIH X tg iter wi) (ok : BlkOk X.N X.env.scope scope own)
    (hg : ∀ (s : Shared) (H : Hp) (C : Addr) (cl : List (Str × Addr)) (fp : List Addr), PG (blkH X s H scope (compEnvC scope cl C X.env) fp) tg g) (ht : ∀ (s : Shared) (H : Hp) (C : Addr) (cl : List (Str × Addr)) (fp : List Addr), PTs (blkH X s H scope (compEnvC scope cl C X.env) fp) ifs tt)
    (he : ∀ (s : Shared) (H : Hp) (C : Addr) (cl : List (Str × Addr)) (fp : List Addr), PE (blkH X s H scope (compEnvC scope cl C X.env) fp) elt te) (hs : ∀ x, foldedSetIterable iter X.env x = pure x := by intro _; rfl) :
    PE X (.ListComp elt [⟨tg, iter, ifs, 0⟩] scope pos) (tLc wi g tt te (own.map (·.2))) := by
  refine ⟨fun pins s σ H Q I h => ?_⟩
  rw [eval_ListComp]
  have hfree : ∀ y ∈ scope.names, y.2 = .free → ∃ c, X.env.cells.lookup y.1 = some c := fun y hy e => (ok.free y hy e).elim (fun k => I.ok.has _ (.inl k)) fun k => I.ok.has _ (.inr k)
  refine wpAny_comprehension_free (use := none) rfl hs (closure_ok hfree) ok.kind (fun y hy e => by rw [ok.uniq y hy, e]) (thn (hi.run pins s σ H _ I h) fun xv s1 hx => thn hx fun itv s2 ⟨it, fp, tn, J, H2, ei, I2, T, st2, f2, q⟩ => ?_)
  subst ei
  refine wpAny_newObj_type (newEnv_comp ?_) (by show 0 ≤ sizeLine; decide)
  -- the list to be, and the state with it
  obtain ⟨L, hL⟩ : ∃ L, s2.heap.objs.size = L := ⟨_, rfl⟩
  obtain ⟨W, ⟨m0, w0⟩, turn⟩ := q L (I2.hok.fresh (Nat.le_of_eq hL))
  obtain ⟨s3, hs3⟩ : ∃ s3 : Shared, ({ s2 with heap := s2.heap.push { cls := .type "list", data := .seq ([] : List Value).toArray } } : Shared) = s3 := ⟨_, rfl⟩
  have push3 : ∀ (b : Addr) (u : Obj), s2.heap.get? b = some u → s3.heap.get? b = some u := fun b u e => by rw [← hs3]; exact Heap.get?_push_of_some _ e
  have size3 : s2.heap.objs.size < s3.heap.objs.size := by rw [← hs3]; show _ < (s2.heap.push _).objs.size; rw [Heap.size_push]; exact Nat.lt_succ_self _
  have I3 : Inv X pins σ (upd H2 L (.lst [])) s3 := by
    rw [← hs3]
    exact I2.laid (t' := s2.toks) (fun b u e => Heap.get?_push_of_some _ e) (Nat.le_of_eq hL) ⟨Nat.zero_le _, [], 0, .nil, by rw [← hL]; exact Heap.get?_push_size _ rfl⟩
  have small : ∀ b ∈ fp, b < s2.heap.objs.size := fun b hb => (T.obj _ _ st2 b hb).elim fun u z => Heap.lt_size z.1
  have f3 : ∀ b ∈ fp, FpOk X pins (upd H2 L (.lst [])) b ∧ b < s3.heap.objs.size := fun b hb =>
    ⟨⟨by rw [upd_ne (by rw [← hL]; exact Nat.ne_of_lt (small b hb))]; exact (f2 b hb).1, (f2 b hb).2⟩, Nat.lt_trans (small b hb) size3⟩
  have I4 := startH I3 ok hN f3
  have pg := hg s3 (upd H2 L (.lst [])) s3.heap.objs.size (cellsFrom (s3.heap.objs.size + 1) scope.names (cloFrom X.env.cells scope.names [])) fp
  have pt := ht s3 (upd H2 L (.lst [])) s3.heap.objs.size (cellsFrom (s3.heap.objs.size + 1) scope.names (cloFrom X.env.cells scope.names [])) fp
  have pe := he s3 (upd H2 L (.lst [])) s3.heap.objs.size (cellsFrom (s3.heap.objs.size + 1) scope.names (cloFrom X.env.cells scope.names [])) fp
  rw [hs3, hL]
  obtain ⟨ce, hce⟩ : ∃ ce, compEnvC scope (cellsFrom (s3.heap.objs.size + 1) scope.names (cloFrom X.env.cells scope.names [])) s3.heap.objs.size X.env = ce := ⟨_, rfl⟩
  have cL : ce.locals = s3.heap.objs.size := by rw [← hce]; rfl
  obtain ⟨Qf, hQf⟩ : ∃ Qf, Qf = compPost (model X.prog X.w) X.A X.xe none (EP X pins σ Q) (.ref L) s3.heap.objs.size := ⟨_, rfl⟩
  suffices hgoal : codeAny (model X.prog X.w) X.A (.compStart (.ListComp elt [⟨tg, iter, ifs, 0⟩] scope pos) 0 (.ref it) (.ref L) ce) Qf { s3 with heap := pushCells (s3.heap.push { cls := .type "dict", data := .dict #[] }) scope.names } by
    rw [hQf, ← hce] at hgoal
    exact hgoal
  rw [hce] at I4 pg pt pe
  obtain ⟨H3, hH3⟩ : ∃ H3, upd H2 L (.lst []) = H3 := ⟨_, rfl⟩
  rw [hH3] at I3 I4 pg pt pe w0 f3
  obtain ⟨s4, hs4⟩ : ∃ s4 : Shared, ({ s3 with heap := pushCells (s3.heap.push { cls := .type "dict", data := .dict #[] }) scope.names } : Shared) = s4 := ⟨_, rfl⟩
  rw [hs4] at I4 ⊢
  have st4 : tn 0 s4.heap := T.keep _ _ _ st2 fun b _ u e => by rw [← hs4]; exact pushCells_keeps _ _ _ _ (Heap.get?_push_of_some _ (push3 b u e))
  have fB : ∀ b ∈ fp, FpOk X pins H3 b := fun b hb => (f3 b hb).1
  have loop : codeAny (model X.prog X.w) X.A (.compLoop (.ListComp elt [⟨tg, iter, ifs, 0⟩] scope pos) 0 (.ref it) (.ref L) ce) Qf s4 := by
    refine compLoop_any (fun n s' => ∃ j H', Inv (blkH X s3 H3 scope ce fp) [] (wipe σ (own.map (·.2))) H' s' ∧ tn j s'.heap ∧ (∀ b ∈ fp, H' b = none) ∧ W j n H') ?_ m0 ⟨0, H3, I4, st4, fun b hb => (fB b hb).1, w0⟩
    rintro n s5 ⟨j, H5, I5, st5, n5, w5⟩
    rcases turn j n H5 w5 with ⟨stop, qq⟩ | ⟨go, Nx, hNx, step⟩
    · refine thnF (T.done (blkH X s3 H3 scope ce fp) rfl rfl rfl hc j [] s5 _ H5 (fun _ _ => False) I5 (fpH fB I5 n5) st5 stop) fun r s6 ⟨hr, I6⟩ => ?_
      subst hr
      have I7 : Inv X pins σ H5 s6 := I3.call' (ch := fp) I6.os I6.base I6.hok I6.bare fun b hb => ⟨(fB b hb).2.2.2.1, (fB b hb).2.1, (fB b hb).2.2.2.2.1, (fB b hb).2.2.2.2.2⟩
      have nC : H5 s3.heap.objs.size = none := by rw [← cL]; exact I6.free
      obtain ⟨m, hn, _⟩ := I6.loc
      have hn : s6.heap.Ns ce.locals m := hn
      rw [cL] at hn
      obtain ⟨f0, f1, _, f3', f4, f5⟩ := I3.fpOk (Nat.le_refl _) nC
      rw [hQf]
      exact ⟨m, hn, fun g sb => ⟨.ref L, H5, I7.turned (t' := s6.toks) (fun b u hb e => (sb.2 b hb).trans e) f0 f1 f3' f4 f5, rfl, qq⟩⟩
    · refine thnF (T.item (blkH X s3 H3 scope ce fp) rfl rfl rfl hc j [] s5 _ H5 (fun _ _ => False) I5 (fpH fB I5 n5) st5 go) fun r s6 ⟨u, hr, h6⟩ => ?_
      subst hr
      refine thnF h6 fun _ s7 ⟨x, H7, I7, r7, y7, st7, n7⟩ => ?_
      refine thnF (pg.run _ s7 _ H7 x u _ (I7.pinned (fpH fB I7 n7) (T.obj _ _ st7)) r7 (step x H7 y7)) fun _ s8 ⟨σ8, H8, I8, hw8, q8⟩ => ?_
      -- how a turn ends
      have fin : ∀ {s' : Shared} {H' : Hp}, Inv (blkH X s3 H3 scope ce fp) ([] ++ pinsAt fp s7.heap) σ8 H' s' → Nx H' → ∃ m, m < n ∧ ∃ j H', Inv (blkH X s3 H3 scope ce fp) [] (wipe σ (own.map (·.2))) H' s' ∧ tn j s'.heap ∧ (∀ b ∈ fp, H' b = none) ∧ W j m H' := fun {s' H'} J' nx => by
        obtain ⟨m', hm, w'⟩ := hNx H' nx
        have stay : ∀ b ∈ fp, ∀ u, s7.heap.get? b = some u → s'.heap.get? b = some u ∧ H' b = none := fun b hb u e => by
          obtain ⟨z1, z2, _⟩ := J'.pin (b, u) (List.mem_append_right _ (List.mem_append_right _ (mem_pinsAt hb e)))
          exact ⟨z1, z2⟩
        refine ⟨m', hm, j + 1, H', (J'.unpinned (pins := [])).weak (by rw [← wipe_length σ8 (own.map (·.2)), hw8]) (fun i v e => ?_), T.keep _ _ _ st7 fun b hb u e => (stay b hb u e).1, fun b hb => ?_, w'⟩
        · rw [← hw8] at e
          exact (wipe_some e).1
        · obtain ⟨u, e, _⟩ := T.obj _ _ st7 b hb
          exact (stay b hb u e).2
      refine thnF (pt.run _ s8 σ8 H8 _ I8 q8) fun b s9 ⟨H9, I9, q9⟩ => ?_
      cases b with
      | false =>
        rw [if_neg Bool.false_ne_true] at q9 ⊢
        exact fin I9 q9
      | true =>
        rw [if_pos rfl] at q9 ⊢
        exact thnF (pe.run _ s9 σ8 H9 _ I9 q9) fun z s10 ⟨yv, H10, I10, r10, acc, hL10, hz10, nx⟩ => app_ok (X := blkH X s3 H3 scope ce fp) I10 hL10 hz10 r10 fun s11 I11 => fin I11 nx
  exact codeAny_compStart_list loop (T.self X.A 0 _ _ _ st4 loop)
end
end Sk

set_option Elab.async false
set_option linter.all false
set_option maxRecDepth 100000
set_option maxHeartbeats 1000000
namespace Sk
open PySem L2 Evl PySem.Spec PyProof.Rows L2H
/-! ### errors whose context is told, and what is called while one of them is handled -/
section
variable {X : Cx} {C : Addr} {x m : Str} {j : Nat} {p p2 pos pos' : Pos}
theorem pmkN_err (T : ErrC X.prog X.w X.K X.mg X.base x C) (hr : Room 3 X.A) (hg : Gl X x) (hdb : (x == ("__debug__" : Str)) = false := by decide) :
    L2N.PMk X (.Call (.Name x p) [.Constant (.str m) j p2] [] pos) (fun _ H Q => ∀ H', Ex H H' → ∀ d, ErrAt X.K C d H' → Q (.ref C) (some d) H') := by
  obtain ⟨fI, fd, h1, h2, h3, F⟩ := T.i
  intro pins s σ H Q I h
  obtain ⟨nm, q, N, bs, bm, sn, sub, ab, col, dd, k0, k1, k2, k3, k5, hC, hbm⟩ := T.T.cls
  refine wpAny_Call_Name_kw (ld_glob I hg T.m ?_ hdb)
  refine PySem.W.callWith_K (h₀ := X.base) I.ok.mod.kin T.T.kC (thn ((pa_cons (pe_str (x := m)) pa_nil).run pos pins s σ H (fun vs H1 => vs = [.str m] ∧ H1 = H) I ⟨rfl, rfl⟩) fun us ⟨h0, gn, dw, tk, os⟩ ⟨vs, H1, J, rv, ev, eH⟩ => ⟨J.kIn, ?_⟩) rfl rfl
  subst ev eH
  show wpAny _ _ (call (.ref C) us) _ _ _
  obtain ⟨ga, eg⟩ : ∃ ga, h0.objs.size + 1 = ga := ⟨_, rfl⟩
  obtain ⟨g1, e1⟩ : ∃ g1, (h0.push (PySem.W.kdv_tup us)).push (PySem.HandSPX.excO C h0.objs.size) = g1 := ⟨_, rfl⟩
  have kp : ∀ b u, h0.get? b = some u → g1.get? b = some u := fun b u e => by rw [← e1]; exact Heap.get?_push_of_some _ (Heap.get?_push_of_some _ e)
  have sz : h0.objs.size ≤ ga := by rw [← eg]; exact Nat.le_succ _
  have new : g1.get? ga = some (PySem.HandSPX.excO C h0.objs.size) := by
    rw [← e1, ← eg]
    heap_get
  have free : H1 ga = none := J.hok.fresh sz
  have J2 : Inv X pins σ (upd H1 ga (exo ga C none)) ⟨g1, gn, dw, tk, os⟩ := J.laid (t' := tk) (h' := g1) kp sz (exo_ok new)
  have rv2 : Vals [.ref ga, .str m] (Value.ref ga :: us) := .cons rfl rv
  have lus : us.length ≤ sizeLine := by
    rw [← Paired.length rv, sizeLine_eq]
    show 1 ≤ _
    omega
  have hb := h3 ⟨g1, gn, dw, tk, os⟩ (Value.ref ga :: us) J2.kIn (by rw [List.append_nil, ← rv2.length]; rfl)
  rw [List.append_nil] at hb
  have wish : sp_cinit X.K (wordOf x) [.ref ga, .str m] (upd H1 ga (exo ga C none)) (fun v H2 => v = .non ∧ ∃ d, H2 ga = some (exo ga C (some d)) ∧ H2 d = some (exd d [("word", .str (wordOf x))]) ∧ H1 d = none ∧ Q (.ref C) (some d) (upd (del H2 ga) d (.xd [("word", .str (wordOf x))]))) (fun _ _ _ => False) := by
    refine ⟨ga, C, .str m, rfl, T.T, T.hw, upd_same, fun dx hd hne => ?_⟩
    rw [upd_ne hne] at hd
    refine ⟨rfl, dx, upd_same, by rw [upd_ne hne, upd_same], hd, h _ (fun b o hb => ?_) dx ⟨x, T.nm, upd_same⟩⟩
    have hb1 : b ≠ dx := fun z => by rw [z, hd] at hb; cases hb
    have hb2 : b ≠ ga := fun z => by rw [z, free] at hb; cases hb
    rw [upd_ne hb1, del_ne hb2, upd_ne hb2, upd_ne hb1, upd_ne hb2]
    exact hb
  have body := F.run (X.A.under (.builtin "type.__call__" ⟨.ref C :: us, []⟩)) X.stack ⟨g1, gn, dw, tk, os⟩ _ ⟨Value.ref ga :: us, []⟩ (Value.ref ga :: us) _ _ (fun _ _ _ => False) (hr.make C us []) (J2.env0.make C us []) hb rv2 wish
  subst e1 eg
  refine wpAny_call (PySem.HandSPX.call_own PySem.F.excBase_ValueError (fun Y => PySem.HandSPX.refsVE_contains Y bm hbm) (J.kIn _ _ hC) (PySem.W.looks_findIn J.kIn h1) (fun self => PySem.W.bind_fn J.kIn self h2) lus (codeAny_mono body fun r s' hq => ?_))
  cases r with
  | error er => exact False.elim hq
  | ok fl =>
    cases fl with
    | ret u =>
      obtain ⟨v, H2, os2, bare2, un2, hok2, rv', ev, d, ea, ed, hd1, q2⟩ := hq
      subst ev
      obtain ⟨g2, gn2, dw2, tk2, os'⟩ := s'
      obtain ⟨t0, G, J3, kG, ge, hoe, na⟩ := mk_end0 (d2 := dw2) (t2 := tk2) J sz kp un2 hok2 os2 bare2 ea ed hd1
      refine ⟨rv', _, _, _, ⟨G, gn2, dw2, tk2, os'⟩, _, .ref C, some d, rfl, J3, kG, ge, hoe, ⟨rfl, rfl, fun vs hv => ?_⟩, rfl, rfl, na, rfl, bare2, raises_own T.T.exC T.T.tyC, q2⟩
      cases hv
      rfl
    | next => exact False.elim hq
    | brk => exact False.elim hq
    | cont => exact False.elim hq
theorem ps_errN {E : XK} {W : WX} (hc : X.calm = true) (tk : L2N.Takes X W) (hW : W = fun cls d _ H => E cls d H) (T : ErrC X.prog X.w X.K X.mg X.base x C) (hr : Room 3 X.A) (hg : Gl X x) (hdb : (x == ("__debug__" : Str)) = false := by decide) :
    PS X (.Raise (some (.Call (.Name x p) [.Constant (.str m) j p2] [] pos)) none pos') (tRaise X.K E C) := by
  subst hW
  exact L2N.ps_raise hc tk (pmkN_err T hr hg hdb)
end
theorem passLN {X : Cx} : Passes (L2N.CX X.prog X.w) X E0 := fun _ _ _ _ _ _ _ h => by
  obtain ⟨_, _, _, _, _, _, _, _, _, _, _, _, z⟩ := h
  exact z.elim
theorem takes0N {X : Cx} : L2N.Takes X (fun _ _ _ _ => False) := fun _ _ x => by
  obtain ⟨_, _, _, _, _, _, _, _, _, _, _, _, _, _, _, _, z⟩ := x
  exact z.elim
section
variable {P : Program} {w : World} {K : PySem.W.Frag} {mg : Str → Option Value} {base : Heap} {x qual : Str} {st : Stmt} {f : Addr} {fd : FuncData} {N ps : List Str} {k : Nat} {sp : Sp}
theorem okXN (F : Fun K x qual st f fd) (S : FnScope N ps (defScope st)) (len : ∀ vs H Q E, sp vs H Q E → vs.length = ps.length)
    (hb : ∀ (cdv : Value) (A : Around) (outer : List Env) (s : Shared) (H : Hp) (vs : List V) (Q : VK) (E : XK), Room k (A.deeper (envOfC qual (defScope st) s.heap.objs.size f cdv)) → sp vs H Q E →
      ∃ t, PSs (cxOf (L2N.CX P w) P w K mg base N qual (defScope st) f cdv A outer s H E) (defBody st) t ∧ t { nx := fun _ H' => Q .non H', rt := Q } (start N vs) H) : FnOk P w K mg base (L2N.CX P w) (k + 1) f fd ps sp := by
  obtain ⟨oc, od, kV, doc, pm, an, cdv, ct, osl, rfl, lk, hcd⟩ := F.ex
  exact fn_of lk hcd S len fun A outer s H vs Q E hr q => hb cdv A outer s H vs Q E hr q
theorem okHot (F : Fun K x qual st f fd) (S : FnScope N ps (defScope st)) (len : ∀ vs H Q E, sp vs H Q E → vs.length = ps.length)
    (hb : ∀ (cdv : Value) (A : Around) (outer : List Env) (s : Shared) (H : Hp) (vs : List V) (Q : VK) (E : XK) (p : Addr × Obj), Hot1 A p → RoomH k (A.deeper (envOfC qual (defScope st) s.heap.objs.size f cdv)) → sp vs H Q E →
      ∃ t, PSs (cxH CX0 P w K mg base N qual (defScope st) f cdv A outer s H E p) (defBody st) t ∧ t { nx := fun _ H' => Q .non H', rt := Q } (start N vs) H) : FnH P w K mg base CX0 (k + 1) f fd ps sp := by
  obtain ⟨oc, od, kV, doc, pm, an, cdv, ct, osl, rfl, lk, hcd⟩ := F.ex
  exact fn_ofH lk hcd S len fun A outer s H vs Q E p hot hr q => hb cdv A outer s H vs Q E p hot hr q
theorem fnH_vac {CX : CXT} (no : ∀ vs H Q E, ¬ sp vs H Q E) : FnH P w K mg base CX k f fd ps sp := ⟨fun vs H Q E h => absurd h (no vs H Q E), fun A outer s H args us vs Q E p _ _ _ _ _ _ h => absurd h (no vs H Q E)⟩
theorem fnH_mono {CX : CXT} {j : Nat} (F : FnH P w K mg base CX j f fd ps sp) (h : j ≤ k) : FnH P w K mg base CX k f fd ps sp := ⟨F.len, fun A outer s H args us vs Q E p hr => F.run A outer s H args us vs Q E p (hr.mono h)⟩
end
section
variable {X : Cx} {k : Nat} {f : Addr} {fd : FuncData} {ps : List Str} {sp : Sp} {E : XK} {x : Str} {q pos : Pos} {e : Expr} {es : List Expr} {t : TA}
theorem hotC_mk {p : Addr × Obj} (h : Hot1 X.A p) (m : p ∈ X.pn) : HotC X := ⟨p, h, m⟩
theorem hotC_suite {a : Addr} {oe : Obj} {cls : Value} {d : Option Addr} {pn : List (Addr × Obj)} (hz : L2N.Zn cls d oe) (hf : ∃ vs, oe.data = .fields vs) : HotC (X.suite a ((a, oe) :: pn)) := by
  obtain ⟨vs, hv⟩ := hf
  exact ⟨(a, oe), ⟨rfl, vs, hv, hz.2.2 vs hv⟩, List.mem_cons_self⟩
theorem room_suite {A : Around} (r : Room k A) (h : Option Value) : RoomH k (A.mark h) := ⟨r.dp, r.un⟩
theorem pe_callHot (F : FnH X.prog X.w X.K X.mg X.base CX0 k f fd ps sp) (hr : RoomH k X.A) (hc : HotC X) (hg : Gl X x) (hm : X.mg x = some (.ref f)) (hk : PySem.W.keepIn X.K (.ref f) = true) (hb : Binds X.K fd ps []) (ha : PA X (e :: es) t)
    (hdb : (x == ("__debug__" : Str)) = false := by decide) (he : starEach (e :: es) X.env = (false, eval e X.env) :: starEach es X.env := by rfl) (hpl : (backTo pos (starEach es X.env)).any (·.1) = false := by rfl) :
    PE X (.Call (.Name x q) (e :: es) [] pos) (tCall sp [] E t) := by
  refine ⟨fun pins s σ H Q I h => (pe_callH (E := fun _ => E) F hr hc hg hm hk hb (fun _ _ _ _ _ _ _ z => z.elim) ha hdb he hpl).run pins s σ H Q I ?_⟩
  have z : (fun vs H1 => sp (vs ++ []) H1 Q E) = fun vs H1 => sp vs H1 Q E := by
    funext vs H1
    rw [List.append_nil]
  have h : t σ H (fun vs H1 => sp (vs ++ []) H1 Q E) := h
  rw [z] at h
  exact h
end
end Sk

set_option Elab.async false
set_option linter.all false
set_option maxRecDepth 100000
set_option maxHeartbeats 1000000
namespace Sk
open PySem L2 PySem.Spec PyProof.Rows
/-! ### try with several clauses, each with a name or without -/
/-- an own exception at a, on the ground of the frame that catches -/
def OnGround (X : Cx) (pins : List (Addr × Obj)) (σ : L2.St) (H : Hp) (a : Addr) (cls : Value) (d : Option Addr) (s : Shared) : Prop :=
  ∃ (B : Heap) (sI : Shared), Inv X pins σ H sI ∧ (∀ b u, sI.heap.get? b = some u → b ∉ frs X.stack → B.get? b = some u) ∧ sI.heap.UpToSlots s.heap ∧ HandSPX.FlyingZ B (X.env :: X.outer) a (L2N.Zn cls d) s.heap ∧ H a = none ∧ s.os = sI.os ∧ AllBare s.gens
/-- what the clauses hds do with it where w is wished -/
def Catch (X : Cx) (hds : List ExceptHandler) (w : Ends → WX) : Prop := ∀ (pins : List (Addr × Obj)) (σ : L2.St) (H : Hp) (a : Addr) (cls : Value) (d : Option Addr) (s : Shared) (D : Ends), OnGround X pins σ H a cls d s → w D cls d σ H →
  wpAny (model X.prog X.w) X.A (handleBy (.ref a) X.env hds) (SP X pins D) X.xe s
section
variable {X : Cx} {x n : Str} {c : Value} {i : Nat} {body suite : List Stmt} {b₀ h1 : Stmt} {np pos pos' : Pos} {tb : WX → TS} {ts : Addr → Value → Option Addr → TS} {Wout : WX} {hds : List ExceptHandler} {w : Ends → WX}
theorem catch_nil (hs : X.stack = X.env :: X.outer) (hf : X.env.frame = some X.env.locals) (tk : L2N.Takes X Wout) : Catch X [] (fun _ => Wout) := by
  rintro pins σ H a cls d s D ⟨B, sI, J, nb, up, fl, na, os, ag⟩ hw
  refine wpAny_handleBy_nil ?_
  obtain ⟨_, _, _, oe, vs, T, oT, ts', he, _, hd, h1, _⟩ := id fl
  have up1 : wpAny (model X.prog X.w) X.A (setFlight (.ref a) X.env.frame) (fun _ s4 => wpAny (model X.prog X.w) X.A (throw (.ref a) : Sem Flow) (SP X pins D) X.xe s4) X.xe s := by
    rw [hf]
    exact HandSPX.setFlight_upZ fl fun g hg upg => wpAny_throw (tk _ _ ⟨a, B, sI, pins, σ, H, cls, d, rfl, J, nb, up.trans upg, .inr (.inr (by rw [hs]; exact hg)), na, os, ag, hw⟩)
  unfold PySem.passOn
  refine wpAny_bind (wpAny_field he hd h1 ?_)
  have no : ¬ (Value.ref T == Value.none) = true := fun z => Bool.noConfusion (show false = true from z)
  rw [if_neg no]
  first
    | exact wpAny_bind (wpAny_pure (wpAny_bind up1))
    | exact wpAny_bind up1
/-- the frame, with the exception pinned -/
theorem ground_suite {pins : List (Addr × Obj)} {σ : L2.St} {H : Hp} {a : Addr} {cls : Value} {d : Option Addr} {s : Shared} (hs : X.stack = X.env :: X.outer) (hf : X.env.frame = some X.env.locals) (g : OnGround X pins σ H a cls d s) :
    ∃ oe vs, s.heap.get? a = some oe ∧ L2N.Zn cls d oe ∧ oe.data = .fields vs ∧ Inv (X.suite a ((a, oe) :: (X.pn ++ pins))) [] σ H s := by
  obtain ⟨B, sI, J, nb, up, fl, na, os, ag⟩ := g
  obtain ⟨oe, vs, he, hz, hd⟩ := fl.there
  have out : a ∉ frs (X.env :: X.outer) := fun hm => by
    obtain ⟨_, o', e', hnf⟩ := fl.2.2.1.mem hm
    rw [he] at e'
    cases e'
    exact hnf _ hd
  have nL : a ≠ X.env.locals := fun z => out (List.mem_filterMap.mpr ⟨X.env, List.mem_cons_self, by rw [hf, z]⟩)
  have nF : a ∉ X.fs := fun hm => by
    obtain ⟨e, hmem, q⟩ := List.mem_filterMap.mp hm
    exact out (List.mem_filterMap.mpr ⟨e, List.mem_cons_of_mem _ hmem, q⟩)
  exact ⟨oe, vs, he, hz, hd, (J.landed nb fl.1 up os ag).suite he hd na nL nF⟩
/-- is it the clause's class? -/
theorem catch_test {pins : List (Addr × Obj)} {σ : L2.St} {H : Hp} {a : Addr} {cls : Value} {d : Option Addr} {s : Shared} {b : Bool} {A : Around} {Q : Bool → Shared → Prop} {E : Value → Shared → Prop} (hs : X.stack = X.env :: X.outer) (hf : X.env.frame = some X.env.locals) (hc : Names X x c)
    (g : OnGround X pins σ H a cls d s) (hb : PySem.W.exmOne X.K cls c = some b) :
    PySem.W.Looks (model X.prog X.w) s.heap (typeOf (.ref a)) cls ∧ ∀ {Q : Value → Shared → Prop} {E : Value → Shared → Prop}, Q c s → wpAny (model X.prog X.w) (X.A.mark (some (.ref a))) (eval (.Name x np) X.env) Q E s := by
  obtain ⟨oe, vs, he, hz, hd, S⟩ := ground_suite hs hf g
  refine ⟨fun A Q E s2 kp q => wpAny_typeOf_ref (kp _ _ he) (by rw [hz.1]; exact q), fun {Q E} q => ?_⟩
  obtain ⟨hg, hdbg, hm | ⟨hm, hv, hnn⟩⟩ := hc
  · exact ld_glob (X := X.suite a ((a, oe) :: (X.pn ++ pins))) S hg hm q hdbg
  · exact ld_blt (X := X.suite a ((a, oe) :: (X.pn ++ pins))) S hg hm hv q hnn hdbg
theorem ground_kin {pins : List (Addr × Obj)} {σ : L2.St} {H : Hp} {a : Addr} {cls : Value} {d : Option Addr} {s : Shared} (hs : X.stack = X.env :: X.outer) (hf : X.env.frame = some X.env.locals) (g : OnGround X pins σ H a cls d s) : X.K.In s.heap := by
  obtain ⟨oe, vs, he, hz, hd, S⟩ := ground_suite hs hf g
  exact S.kIn
/-- the ground again, behind the clause's test -/
theorem ground_up {pins : List (Addr × Obj)} {σ : L2.St} {H : Hp} {a : Addr} {cls : Value} {d : Option Addr} {s : Shared} {g : Heap} (h : OnGround X pins σ H a cls d s) (k : ∀ B, HandSPX.FlyingZ B (X.env :: X.outer) a (L2N.Zn cls d) s.heap → HandSPX.FlyingZ B (X.env :: X.outer) a (L2N.Zn cls d) g) (up : s.heap.UpToSlots g) : OnGround X pins σ H a cls d { s with heap := g } := by
  obtain ⟨B, sI, J, nb, up0, fl, na, os, ag⟩ := h
  exact ⟨B, sI, J, nb, up0.trans up, k B fl, na, os, ag⟩
theorem catch_only (hs : X.stack = X.env :: X.outer) (hf : X.env.frame = some X.env.locals) (hc : Names X x c)
    (hsu : ∀ (a : Addr) (oe : Obj) (cls : Value) (d : Option Addr) (pn : List (Addr × Obj)), L2N.Zn cls d oe → (∃ vs, oe.data = .fields vs) → PSs (X.suite a ((a, oe) :: pn)) (b₀ :: suite) (ts a cls d)) (r : Catch X hds w) :
    Catch X (.ExceptHandler (some (.Name x np)) none (b₀ :: suite) pos' :: hds) (fun D => wOnly X.K c ts (w D) D) := by
  rintro pins σ H a cls d s D g ⟨b, hb1, hyes, hno⟩
  have LT := catch_test (np := np) (A := X.A) (Q := fun _ _ => True) (E := fun _ _ => True) hs hf hc g hb1
  refine wpAny_handleBy_cons (codeAny_handlers_test ?_) (by intro q; cases q)
  refine LT.2 ((PySem.W.exm_one (M := model X.prog X.w) (ground_kin hs hf g) LT.1 hb1).here ?_)
  cases b with
  | false => exact r pins σ H a cls d s D g (hno rfl)
  | true =>
    obtain ⟨B, sI, J, nb, up, fl, na, os, ag⟩ := id g
    refine codeAny_handlers_suite ?_
    refine HandSPX.lands_againZ fl fun g4 fl4 up4 => ?_
    obtain ⟨oe, vs, he, hz, hd, S4⟩ := ground_suite (s := { s with heap := g4 }) hs hf ⟨B, sI, J, nb, up.trans up4, fl4, na, os, ag⟩
    have ok := J.ok
    refine wpAny_mono ((hsu a oe cls d (X.pn ++ pins) hz ⟨_, hd⟩).run [] _ _ H _ S4 (hyes rfl a na)) (fun f s6 hsp => ?_) (fun _ _ z => False.elim z)
    cases f with
    | ret u =>
      obtain ⟨v6, σ6, H6, S6, r6, q6⟩ := hsp
      exact ⟨v6, σ6, H6, S6.unsuite ok, r6, q6⟩
    | next => exact hsp.elim fun σ6 h6 => h6.elim fun H6 z => ⟨σ6, H6, z.1.unsuite ok, z.2⟩
    | brk => exact hsp.elim fun σ6 h6 => h6.elim fun H6 z => ⟨σ6, H6, z.1.unsuite ok, z.2⟩
    | cont => exact hsp.elim fun σ6 h6 => h6.elim fun H6 z => ⟨σ6, H6, z.1.unsuite ok, z.2⟩
theorem catch_as (hs : X.stack = X.env :: X.outer) (hf : X.env.frame = some X.env.locals) (hN : X.N.Nodup) (hi : X.N[i]? = some n) (hln : X.env.kindOf n = some .local) (hc : Names X x c)
    (hsu : ∀ (a : Addr) (oe : Obj) (cls : Value) (d : Option Addr) (pn : List (Addr × Obj)), L2N.Zn cls d oe → (∃ vs, oe.data = .fields vs) → PSs (X.suite a ((a, oe) :: pn)) (b₀ :: suite) (ts a cls d)) (r : Catch X hds w) :
    Catch X (.ExceptHandler (some (.Name x np)) (some n) (b₀ :: suite) pos' :: hds) (fun D => wAs X.K c i ts (w D) D) := by
  rintro pins σ H a cls d s D g ⟨b, hb1, hyes, hno⟩
  have LT := catch_test (np := np) (A := X.A) (Q := fun _ _ => True) (E := fun _ _ => True) hs hf hc g hb1
  refine wpAny_handleBy_cons (codeAny_handlers_test ?_) (by intro q; cases q)
  refine LT.2 ((PySem.W.exm_one (M := model X.prog X.w) (ground_kin hs hf g) LT.1 hb1).here ?_)
  cases b with
  | false => exact r pins σ H a cls d s D g (hno rfl)
  | true =>
    obtain ⟨B, sI, J, nb, up, fl, na, os, ag⟩ := id g
    refine codeAny_handlers_suite_as ?_
    refine HandSPX.lands_againZ fl fun g4 fl4 up4 => ?_
    obtain ⟨oe, vs, he, hz, hd, S4⟩ := ground_suite (s := { s with heap := g4 }) hs hf ⟨B, sI, J, nb, up.trans up4, fl4, na, os, ag⟩
    have ok := J.ok
    refine store_ok (X := X.suite a ((a, oe) :: (X.pn ++ pins))) (v := .ref a) S4 hN hi (.inl hln) rfl (fun s5 S5 => ?_) (.inr hln)
    refine wpAny_mono ((hsu a oe cls d (X.pn ++ pins) hz ⟨_, hd⟩).run [] s5 _ H _ S5 (hyes rfl a na)) (fun f s6 hsp => ?_) (fun _ _ z => False.elim z)
    have away : ∀ {σ6 : L2.St} {H6 : Hp} {Q : Shared → Prop}, Inv (X.suite a ((a, oe) :: (X.pn ++ pins))) [] σ6 H6 s6 → (∀ s7, Inv X pins (σ6.set i none) H6 s7 → Q s7) → wpAny (model X.prog X.w) X.A (do bindName X.env n .none; unbindBehindTheSuite X.env n pos') (fun _ s7 => Q s7) X.xe s6 :=
      fun {σ6 H6 Q} S6 hq => gone_ok (S6.unsuite ok) hN hi hln hq
    cases f with
    | ret u =>
      obtain ⟨v6, σ6, H6, S6, r6, q6⟩ := hsp
      exact away S6 fun s7 J7 => ⟨v6, _, H6, J7, r6, q6⟩
    | next => exact hsp.elim fun σ6 h6 => h6.elim fun H6 z => away z.1 fun s7 J7 => ⟨_, H6, J7, z.2⟩
    | brk => exact hsp.elim fun σ6 h6 => h6.elim fun H6 z => away z.1 fun s7 J7 => ⟨_, H6, J7, z.2⟩
    | cont => exact hsp.elim fun σ6 h6 => h6.elim fun H6 z => away z.1 fun s7 J7 => ⟨_, H6, J7, z.2⟩
variable {h₀ : ExceptHandler}
theorem ps_tries (hs : X.stack = X.env :: X.outer) (hf : X.env.frame = some X.env.locals)
    (hb : ∀ (W : WX) (pn : List (Addr × Obj)) (xe : Value → Shared → Prop), L2N.Takes (X.tr pn xe) W → PassesOwn (model X.prog X.w) X.A X.env xe → PSs (X.tr pn xe) body (tb W)) (hh : Catch X (h₀ :: hds) w) :
    PS X (.Try body (h₀ :: hds) [] [] pos) (fun D σ H => tb (w D) D σ H) := by
  refine ⟨fun pins s σ H D I h => ?_⟩
  have ok := I.ok
  have hfr : X.A.frames = some (X.env :: X.outer) := by rw [ok.frames, hs]
  refine wpAny_Try_except (wpAny_mono ((hb (w D) (X.pn ++ pins) _ (fun u s' xx => ?_) PassesOwn.looking).run [] s σ H D (I.toTry _) h) (fun f s1 hsp => ?_) (fun e s1 he => he))
  · obtain ⟨a, B, sI, pins', σ', H', cls, d, rfl, J', nb, up, sky, na, os, ag, hw⟩ := xx
    have sky' : Sky B (X.env :: X.outer) a (L2N.Zn cls d) X.env.locals s'.heap := by rw [← hs]; exact sky
    exact L2N.Sky.land L2N.Zn.steady hfr hf sky' fun g3 fl3 up3 => hh pins σ' H' a cls d { s' with heap := g3 } D ⟨B, sI, J'.ofTry ok, nb, up.trans up3, fl3, na, os, ag⟩ hw
  · cases f with
    | ret u => exact hsp.elim fun v hv => hv.elim fun σ' h' => h'.elim fun H' z => ⟨v, σ', H', z.1.ofTry ok, z.2.1, z.2.2⟩
    | next => exact hsp.elim fun σ' h' => h'.elim fun H' z => wpAny_execs_nil ⟨σ', H', z.1.ofTry ok, z.2⟩
    | brk => exact hsp.elim fun σ' h' => h'.elim fun H' z => ⟨σ', H', z.1.ofTry ok, z.2⟩
    | cont => exact hsp.elim fun σ' h' => h'.elim fun H' z => ⟨σ', H', z.1.ofTry ok, z.2⟩
end
end Sk

set_option Elab.async false
set_option linter.all false
set_option maxRecDepth 100000
set_option maxHeartbeats 1000000
namespace Sk
open PySem L2 Evl
/-! ### to_int -/
def pToInt (K : PySem.W.Frag) (CN : Addr) : V → Hp → VP → WP → Prop := fun x H R W => ∃ t : T, NumV K H x t ∧ t.can ∧ t.height ≤ 44 ∧ t.size < 100000 ∧ (t.val.natAbs < 2 ^ 64 → ∀ H', R (.int t.val) H') ∧ (¬ t.val.natAbs < 2 ^ 64 → W CN)
def sp_to_int (K : PySem.W.Frag) (CN : Addr) : Sp := spX1 K (pToInt K CN)
def t_to_int (K : PySem.W.Frag) (a_NotAllowed : Addr) (E : XK) : TS := (tSeq (tAsg (tCall (sp_value_within K 45) [] E0 (tCons (tVar 0) (tCons (tC (.int 64)) tNil))) (gName 1))
    (tSeq (tIfS (tOr (tTest (tOp xIsN (tVar 1) (tC .non))) (tTest (tOp xGt (tBits (tVar 1)) (tC (.int 64))))) (tRaise K E a_NotAllowed) tNext)
    (tRet (tVar 1))))
theorem pure_to_int {K : PySem.W.Frag} {CN : Addr} {vs : List V} {H : Hp} {Q : VK} {E : XK} (h : sp_to_int K CN vs H Q E) : t_to_int K CN E { nx := fun _ H' => Q .non H', rt := Q } (start ["number", "value"] vs) H := by
  obtain ⟨x, R, W, rfl, ⟨t, hx, hc, hh, hz, h1, h2⟩, k, kE⟩ := h
  have hl := len_size t
  refine q_asgR (er_call2 (R1 := fun v H => NumV K H v t) (R2 := fun v _ => v = .int ((64 : Nat) : Int)) (R := fun v _ => v = optV (t.within 64)) (er_var rfl fun H5 e5 => hx.ex e5) numT.mono (er_is ev_c) monoC fun v w H5 e5 k1 k2 => ⟨t, 64, k1, k2, nn_of_can hc hz, by omega, by omega, by omega, rfl⟩) fun v H1 e1 hv => ?_
  subst hv
  cases hw : t.within 64 with
  | none =>
    have hbig := can_none hc hw
    refine q_when (b := true || false) (et_or (et_test (ev_is (ev_isN (ev_var rfl)) rfl)) fun h => by cases h) (fun _ H2 e2 => ?_) (fun h => by cases h)
    exact fun Hz ez => kE CN Hz (e1.trans (e2.trans ez)) (h2 (by omega))
  | some q =>
    have hq := within_val _ _ _ hw
    have hbits := intBits_le_iff q 64
    refine q_when (b := false || decide ((64 : Int) < ((Builtin.Int.intBits q : Nat) : Int))) (et_or (et_test (ev_is (ev_isN (ev_var rfl)) rfl)) fun _ => et_test (ev_gt (ev_bits (ev_var rfl)) ev_c)) (fun hb H2 e2 => ?_) (fun hb H2 e2 => ?_)
    · rw [Bool.false_or, decide_eq_true_eq] at hb
      exact fun Hz ez => kE CN Hz (e1.trans (e2.trans ez)) (h2 (by rw [← hq]; intro z; have := hbits.mpr z; omega))
    · rw [Bool.false_or, decide_eq_false_iff_not] at hb
      refine s_ret (v := .int q) (ev_var rfl) fun H3 e3 => k _ H3 (e1.trans (e2.trans e3)) (by rw [hq]; exact h1 (by rw [← hq]; exact hbits.mp (by omega)) H3)
/-! ### how great the law's integers are -/
def LB : Nat := 2 ^ 2990
theorem lb_ge {k : Nat} (h : k ≤ 2990) : 2 ^ k ≤ LB := Nat.pow_le_pow_right (by decide) h
theorem lb_sum {a c : Nat} (h : a ≤ 2901) (hc : c ≤ 2048) : 2 ^ a + c ≤ LB := by
  have h1 : (2 : Nat) ^ a ≤ 2 ^ 2901 := Nat.pow_le_pow_right (by decide) h
  have h2 : (2 : Nat) ^ 11 ≤ 2 ^ 2901 := Nat.pow_le_pow_right (by decide) (by decide)
  have h3 : (2 : Nat) ^ 2902 = 2 ^ 2901 * 2 := Nat.pow_succ ..
  have h4 := lb_ge (k := 2902) (by decide)
  have h5 : (2 : Nat) ^ 11 = 2048 := by decide
  generalize (2 : Nat) ^ 2901 = z at *
  omega
def LbR : VP := IntR fun i => i.natAbs ≤ LB
section
variable {K : PySem.W.Frag} {σ : L2.St} {H : Hp} {te tf : TE}
theorem er_sgn {i : Nat} {s : Int} (hi : σ[i]? = some (some (.int s))) (hs : s = 1 ∨ s = -1) (h : ER te σ H LbR) : ER (tOp xMul (tVar i) te) σ H LbR := fun H1 e R q =>
  ev_var hi H1 e _ fun H2 e2 => h H2 (e.trans e2) _ fun w H3 e3 ⟨j, hw, hj⟩ => ⟨s, j, rfl, hw, .inl (by rcases hs with rfl | rfl <;> decide), q _ H3 (e2.trans e3) ⟨_, rfl, by rcases hs with rfl | rfl <;> omega⟩⟩
end
def pLInteger : V → V → Hp → VP → Prop := fun x y H R => ∃ k : Int, Pool x H ∧ y = .int k ∧ R = LbR
def sp_law_integer1 (K : PySem.W.Frag) : Sp := spF2 pLInteger
def t_law_integer1 (K : PySem.W.Frag) : TS := (tSeq (tAsg (tCall (sp_law_pick K) [] E0 (tCons (tVar 0) (tCons (tVar 1) (tCons (tC (.int 6)) tNil)))) (gName 2))
    (tSeq (tAsg (tOp (rIxL K) (tLst (tCons (tC (.int 1)) (tCons (tUn xNeg (tC (.int 1))) tNil))) (tCall (sp_law_pick K) [] E0 (tCons (tVar 0) (tCons (tOp xAdd (tVar 1) (tC (.int 1))) (tCons (tC (.int 2)) tNil))))) (gName 3))
    (tSeq (tAsg (tCall (sp_law_pick K) [] E0 (tCons (tVar 0) (tCons (tOp xAdd (tVar 1) (tC (.int 2))) (tCons (tC (.int 1009)) tNil)))) (gName 4))
    (tSeq (tIfS (tTest (tOp rEq (tVar 2) (tC (.int 0)))) (tRet (tOp xMul (tVar 3) (tVar 4))) tNext)
    (tSeq (tIfS (tTest (tOp rEq (tVar 2) (tC (.int 1)))) (tRet (tOp xMul (tVar 3) (tOp xSub (tOp xAdd (tCall (sp_law_two K) [] E0 (tCons (tCall (sp_law_pick K) [] E0 (tCons (tVar 0) (tCons (tOp xAdd (tVar 1) (tC (.int 3))) (tCons (tC (.int 70)) tNil)))) tNil)) (tVar 4)) (tC (.int 500))))) tNext)
    (tSeq (tIfS (tTest (tOp rEq (tVar 2) (tC (.int 2)))) (tSeq (tAsg (tC (.int 0)) (gName 5))
    (tSeq (tFor (iRng1 (tCons (tOp xAdd (tC (.int 1)) (tOp xMod (tVar 4) (tC (.int 30)))) tNil)) (gName 6) (tAsg (tOp xAdd (tOp xMul (tVar 5) (tC (.int 1009))) (tCall (sp_law_pick K) [] E0 (tCons (tVar 0) (tCons (tOp xAdd (tOp xAdd (tVar 1) (tC (.int 4))) (tVar 6)) (tCons (tC (.int 1009)) tNil))))) (gName 5)))
    (tRet (tOp xMul (tVar 3) (tVar 5))))) tNext)
    (tSeq (tIfS (tTest (tOp rEq (tVar 2) (tC (.int 3)))) (tRet (tOp xMul (tVar 3) (tOp xSub (tCall (sp_law_two K) [] E0 (tCons (tOp xAdd (tOp xMul (tC (.int 2)) (tVar 4)) (tCall (sp_law_pick K) [] E0 (tCons (tVar 0) (tCons (tOp xAdd (tVar 1) (tC (.int 3))) (tCons (tC (.int 50)) tNil))))) tNil)) (tVar 4)))) tNext)
    (tSeq (tIfS (tTest (tOp rEq (tVar 2) (tC (.int 4)))) (tRet (tOp xMul (tVar 3) (tOp xAdd (tOp xSub (tOp xPow (tC (.int 2)) (tC (.int 64))) (tC (.int 2))) (tCall (sp_law_pick K) [] E0 (tCons (tVar 0) (tCons (tOp xAdd (tVar 1) (tC (.int 3))) (tCons (tC (.int 4)) tNil))))))) tNext)
    (tRet (tOp xMul (tVar 3) (tOp xSub (tCall (sp_law_two K) [] E0 (tCons (tOp xAdd (tC (.int 2890)) (tCall (sp_law_pick K) [] E0 (tCons (tVar 0) (tCons (tOp xAdd (tVar 1) (tC (.int 3))) (tCons (tC (.int 12)) tNil))))) tNil)) (tCall (sp_law_pick K) [] E0 (tCons (tVar 0) (tCons (tOp xAdd (tVar 1) (tC (.int 4))) (tCons (tC (.int 2)) tNil)))))))))))))))
theorem pure_law_integer1 {K : PySem.W.Frag} {vs : List V} {H : Hp} {Q : VK} {E : XK} (h : sp_law_integer1 K vs H Q E) : t_law_integer1 K { nx := fun _ H' => Q .non H', rt := Q } (start ["numbers", "at", "way", "sign", "low", "value", "k"] vs) H := by
  obtain ⟨x, y, R, rfl, ⟨at', hx, rfl, rfl⟩, k⟩ := h
  refine q_asgR (er_pick (m := 6) (er_var' rfl hx pool) (ev_var rfl) ev_c (by decide)) fun v H1 e1 ⟨way, _, hv⟩ => ?_
  subst hv
  have pl : ∀ {H'}, Ex H H' → Pool x H' := fun e => pool _ _ _ e hx
  refine q_asgR (R := IntR fun i => i = 1 ∨ i = -1) ((er_menu (ms := [1, -1]) (m := 2) (el_lst (ea_cons ev_c (ea_cons (ev_neg ev_c) ea_nil)) (by decide)) (er_pick (m := 2) (er_var' rfl (pl e1) pool) (ev_add (ev_var rfl) ev_c) ev_c (by decide)) (by decide)).imp fun v H2 e2 ⟨i, hv, hm⟩ => ⟨i, hv, by simpa using hm⟩) fun v H2 e2 ⟨s, hv, hs⟩ => ?_
  subst hv
  have e12 := e1.trans e2
  refine q_asgR (er_pick (m := 1009) (er_var' rfl (pl e12) pool) (ev_add (ev_var rfl) ev_c) ev_c (by decide)) fun v H3 e3 ⟨low, hlow, hv⟩ => ?_
  subst hv
  have e13 := e12.trans e3
  have p11 := lb_ge (k := 11) (by decide)
  have h11 : (2 : Nat) ^ 11 = 2048 := by decide
  have lowR : ∀ {σ : L2.St} {H'}, σ[4]? = some (some (.int (low : Int))) → ER (tVar 4) σ H' (IntR fun i => 0 ≤ i ∧ i < 1009) := fun h => er_I (ev_var h) (by omega)
  refine q_when (et_test (ev_eq (ev_var rfl) ev_c rfl)) (fun _ H4 e4 => ?_) (fun _ H4 e4 => ?_)
  · exact s_retR (er_sgn rfl hs (er_I (ev_var rfl) (by omega))) fun w H5 e5 g => k w H5 (e13.trans (e4.trans e5)) g
  have e14 := e13.trans e4
  refine q_when (et_test (ev_eq (ev_var rfl) ev_c rfl)) (fun _ H5 e5 => ?_) (fun _ H5 e5 => ?_)
  · have e15 := e14.trans e5
    refine s_retR (er_sgn rfl hs (er_sub (P := fun i => 0 ≤ i ∧ i.natAbs + 600 ≤ LB) (Q := fun i => i = 500) (er_add (P := fun i => ∃ a : Nat, a ≤ 69 ∧ i = 2 ^ a) (Q := fun i => 0 ≤ i ∧ i < 1009) ((er_two (L := 0) (N := 69) ((er_pickI (m := 70) (er_var' rfl (pl e15) pool) (ev_add (ev_var rfl) ev_c) ev_c (by decide)).imp fun v _ _ ⟨i, hv, hi⟩ => ⟨i, hv, by omega⟩) (by decide)).imp fun v _ _ ⟨i, hv, a, _, ha, hi⟩ => ⟨i, hv, a, ha, hi⟩) (lowR rfl) (fun i j ⟨a, ha, hi⟩ hj => ?_)) (er_c rfl) fun i j hi hj => by omega)) fun w H6 e6 g => k w H6 (e15.trans e6) g
    have h1 := lb_sum (a := a) (c := 1700) (by omega) (by decide)
    have hpos := Nat.two_pow_pos a
    have h3 : i = ((2 ^ a : Nat) : Int) := by rw [hi]; norm_cast
    omega
  have e15 := e14.trans e5
  refine q_when (et_test (ev_eq (ev_var rfl) ev_c rfl)) (fun _ H6 e6 => ?_) (fun _ H6 e6 => ?_)
  · have e16 := e15.trans e6
    refine q_asg ev_c fun H7 e7 => ?_
    have e17 := e16.trans e7
    refine q_forR1 (n := 1 + (low : Int) % 30) (ea_cons (ev_add ev_c (ev_mod (ev_var rfl) ev_c (by decide))) ea_nil) ⟨by omega, by omega⟩ (fun i σ H' => ∃ (c : Int) (z : Option V), σ = [some x, some (.int at'), some (.int (way : Int)), some (.int s), some (.int (low : Int)), some (.int c), z] ∧ Ex H H' ∧ 0 ≤ c ∧ c < ((2 ^ (10 * i) : Nat) : Int)) (fun H8 e8 => ⟨0, none, rfl, e17.trans e8, by omega, by decide⟩) ?_ ?_
    · rintro i σ H' hi ⟨c, z, rfl, e8, hc0, hc1⟩
      refine s_asgR (R := IntR fun j => 0 ≤ j ∧ j < ((2 ^ (10 * (i + 1)) : Nat) : Int)) (er_add (P := fun j => j = c * 1009) (Q := fun j => 0 ≤ j ∧ j < 1009) (er_I (ev_mul (ev_var rfl) ev_c (.inr (by decide))) rfl) (er_pickI (m := 1009) (er_var' rfl (pl e8) pool) (ev_add (ev_add (ev_var rfl) ev_c) (ev_var rfl)) ev_c (by decide)) fun a b ha hb => ?_) fun v H9 e9 ⟨j, hv, hj⟩ => (by subst hv; exact ⟨j, _, rfl, e8.trans e9, hj⟩)
      have h2 : (2 : Nat) ^ (10 * (i + 1)) = 2 ^ (10 * i) * 1024 := by rw [show 10 * (i + 1) = 10 * i + 10 by omega, Nat.pow_add]
      omega
    · rintro σ H' ⟨c, z, rfl, e8, hc0, hc1⟩
      have hn : (1 + (low : Int) % 30).toNat ≤ 30 := by omega
      have h2 : (2 : Nat) ^ (10 * (1 + (low : Int) % 30).toNat) ≤ LB := lb_ge (by omega)
      exact s_retR (er_sgn rfl hs (er_I (ev_var rfl) (by omega))) fun w H9 e9 g => k w H9 (e8.trans e9) g
  have e16 := e15.trans e6
  refine q_when (et_test (ev_eq (ev_var rfl) ev_c rfl)) (fun _ H7 e7 => ?_) (fun _ H7 e7 => ?_)
  · have e17 := e16.trans e7
    refine s_retR (er_sgn rfl hs (er_sub (P := fun i => ∃ a : Nat, a ≤ 2065 ∧ i = 2 ^ a) (Q := fun i => 0 ≤ i ∧ i < 1009) ((er_two (L := 0) (N := 2065) (er_add (P := fun i => 0 ≤ i ∧ i ≤ 2016) (Q := fun i => 0 ≤ i ∧ i < 50) (er_I (ev_mul ev_c (ev_var rfl) (.inl (by decide))) (by omega)) (er_pickI (m := 50) (er_var' rfl (pl e17) pool) (ev_add (ev_var rfl) ev_c) ev_c (by decide)) fun i j hi hj => by omega) (by decide)).imp fun v _ _ ⟨i, hv, a, _, ha, hi⟩ => ⟨i, hv, a, ha, hi⟩) (lowR rfl) (fun i j ⟨a, ha, hi⟩ hj => ?_))) fun w H8 e8 g => k w H8 (e17.trans e8) g
    have h1 := lb_sum (a := a) (c := 1700) (by omega) (by decide)
    have hpos := Nat.two_pow_pos a
    have h3 : i = ((2 ^ a : Nat) : Int) := by rw [hi]; norm_cast
    omega
  have e17 := e16.trans e7
  refine q_when (et_test (ev_eq (ev_var rfl) ev_c rfl)) (fun _ H8 e8 => ?_) (fun _ H8 e8 => ?_)
  · have e18 := e17.trans e8
    have h64 := lb_ge (k := 65) (by decide)
    exact s_retR (er_sgn rfl hs (er_add (P := fun i => i = 2 ^ 64 - 2) (Q := fun i => 0 ≤ i ∧ i < 4) (er_I (ev_sub (ev_pow ev_c ev_c ⟨by decide, by decide, by decide⟩) ev_c) (by decide)) (er_pickI (m := 4) (er_var' rfl (pl e18) pool) (ev_add (ev_var rfl) ev_c) ev_c (by decide)) fun i j hi hj => by omega)) fun w H9 e9 g => k w H9 (e18.trans e9) g
  have e18 := e17.trans e8
  refine s_retR (er_sgn rfl hs (er_sub (P := fun i => ∃ a : Nat, a ≤ 2901 ∧ i = 2 ^ a) (Q := fun i => 0 ≤ i ∧ i < 2) ((er_two (L := 0) (N := 2901) (er_add (P := fun i => i = 2890) (Q := fun i => 0 ≤ i ∧ i < 12) (er_c rfl) (er_pickI (m := 12) (er_var' rfl (pl e18) pool) (ev_add (ev_var rfl) ev_c) ev_c (by decide)) fun i j hi hj => by omega) (by decide)).imp fun v _ _ ⟨i, hv, a, _, ha, hi⟩ => ⟨i, hv, a, ha, hi⟩) (er_pickI (m := 2) (er_var' rfl (pl e18) pool) (ev_add (ev_var rfl) ev_c) ev_c (by decide)) (fun i j ⟨a, ha, hi⟩ hj => ?_))) fun w H9 e9 g => k w H9 (e18.trans e9) g
  have h1 := lb_sum (a := a) (c := 1700) (by omega) (by decide)
  have hpos := Nat.two_pow_pos a
  have h3 : i = ((2 ^ a : Nat) : Int) := by rw [hi]; norm_cast
  omega
/-! ### how many binary digits -/
def Dgs (n d : Nat) : Prop := n < 2 ^ d ∧ (0 < d → 2 ^ (d - 1) ≤ n)
def pLDigits : V → Hp → VP → Prop := fun x H R => ∃ n : Int, x = .int n ∧ n.natAbs ≤ LB ∧ R = fun v _ => ∃ d : Nat, v = .int (d : Int) ∧ Dgs n.natAbs d
def sp_law_digits1 (K : PySem.W.Frag) : Sp := spF1 pLDigits
def t_law_digits1 (K : PySem.W.Frag) : TS := (tSeq (tAsg (tCB xAbs (tCons (tVar 0) tNil)) (gName 1))
    (tSeq (tAsg (tC (.int 0)) (gName 2))
    (tSeq (tFor (iRng1 (tCons (tC (.int 3100)) tNil)) (gName 3) (tSeq (tIfS (tTest (tOp rEq (tVar 1) (tC (.int 0)))) tBreak tNext)
    (tSeq (tAsg (tOp xFdiv (tVar 1) (tC (.int 2))) (gName 1))
    (tAsg (tOp xAdd (tVar 2) (tC (.int 1))) (gName 2)))))
    (tRet (tVar 2)))))
theorem pure_law_digits1 {K : PySem.W.Frag} {vs : List V} {H : Hp} {Q : VK} {E : XK} (h : sp_law_digits1 K vs H Q E) : t_law_digits1 K { nx := fun _ H' => Q .non H', rt := Q } (start ["value", "rest", "count", "k"] vs) H := by
  obtain ⟨x, R, rfl, ⟨n, rfl, hn, rfl⟩, k⟩ := h
  refine q_asg (v := .int (n.natAbs : Int)) (ev_is (ev_abs (ev_var rfl)) (congrArg V.int (by split <;> omega))) fun H1 e1 => ?_
  refine q_asg ev_c fun H2 e2 => ?_
  have fin : ∀ (σ : L2.St) (H' : Hp) (c : Nat) (z : Option V) (r : Int), σ = [some (.int n), some (.int r), some (.int (c : Int)), z] → Ex H H' → n.natAbs / 2 ^ c = 0 → (0 < c → n.natAbs / 2 ^ (c - 1) ≠ 0) → tRet (tVar 2) { nx := fun _ H' => Q .non H', rt := Q } σ H' := by
    rintro σ H' c z r rfl e h1 h2
    refine s_ret (ev_var rfl) fun H3 e3 => k _ H3 (e.trans e3) ⟨c, rfl, ?_, fun hc => ?_⟩
    · exact (Nat.div_eq_zero_iff_lt (Nat.two_pow_pos c)).mp h1
    · have := h2 hc
      rw [Ne, Nat.div_eq_zero_iff_lt (Nat.two_pow_pos _)] at this
      omega
  refine q_forR1 (ea_cons ev_c ea_nil) ⟨by decide, by decide⟩ (fun i σ H' => ∃ z : Option V, σ = [some (.int n), some (.int ((n.natAbs / 2 ^ i : Nat) : Int)), some (.int (i : Int)), z] ∧ Ex H H' ∧ (0 < i → n.natAbs / 2 ^ (i - 1) ≠ 0)) (fun H3 e3 => ⟨none, by rw [Nat.pow_zero, Nat.div_one]; rfl, e1.trans (e2.trans e3), fun h => absurd h (by decide)⟩) ?_ ?_
  · rintro i σ H' hi ⟨z, rfl, e3, hlo⟩
    refine q_when (et_test (ev_eq (ev_var rfl) ev_c rfl)) (fun hb H4 e4 => ?_) (fun hb H4 e4 => ?_)
    · have h0 : ((n.natAbs / 2 ^ i : Nat) : Int) = 0 := by simpa using hb
      exact fin _ H4 i _ _ rfl (e3.trans e4) (by omega) hlo
    · have h0 : ((n.natAbs / 2 ^ i : Nat) : Int) ≠ 0 := by simpa using hb
      refine q_asg (v := .int ((n.natAbs / 2 ^ (i + 1) : Nat) : Int)) (ev_is (ev_fdiv (ev_var rfl) ev_c ⟨by decide, by decide⟩) (congrArg V.int (by rw [Nat.pow_succ, ← Nat.div_div_eq_div_mul]; omega))) fun H5 e5 => ?_
      exact s_asg (v := .int ((i + 1 : Nat) : Int)) (ev_is (ev_add (ev_var rfl) ev_c) (congrArg V.int (by omega))) fun H6 e6 => ⟨_, rfl, e3.trans (e4.trans (e5.trans e6)), fun _ => by rw [Nat.add_sub_cancel]; omega⟩
  · rintro σ H' ⟨z, rfl, e3, hlo⟩
    refine fin _ H' 3100 z _ rfl e3 ?_ (fun _ => hlo (by decide))
    refine Nat.div_eq_of_lt (Nat.lt_of_le_of_lt hn ?_)
    unfold LB
    exact Nat.pow_lt_pow_right (by decide) (by decide)
end Sk

set_option Elab.async false
set_option linter.all false
set_option maxRecDepth 100000
set_option maxHeartbeats 1000000
namespace Sk
open PySem L2 Evl
/-! ### numbers of 2900 binary digits -/
theorem naf_half : ∀ (k : Nat) (n : Int) (p : Nat), n.natAbs ≤ 2 ^ k → (naf n p).length ≤ k / 2 + 1
  | 0, n, p, h => by have := naf_len 0 n p h; omega
  | 1, n, p, h => by
    rcases Int.emod_two_eq n with e | e
    · rw [naf_even e]
      have := naf_len 0 (n / 2) (p + 1) (by show _ ≤ 1; have : (2 : Nat) ^ 1 = 2 := rfl; omega)
      omega
    · rw [naf_odd e, show (n - (2 - n % 4)) / 2 = 0 by have : (2 : Nat) ^ 1 = 2 := rfl; omega, naf_zero]
      exact Nat.le_refl 1
  | k + 2, n, p, h => by
    have h1 : (2 : Nat) ^ (k + 1) = 2 ^ k * 2 := Nat.pow_succ ..
    have h2 : (2 : Nat) ^ (k + 2) = 2 ^ (k + 1) * 2 := Nat.pow_succ ..
    have h3 := Nat.two_pow_pos k
    rcases Int.emod_two_eq n with e | e
    · rw [naf_even e]
      have := naf_half (k + 1) (n / 2) (p + 1) (by omega)
      omega
    · rw [naf_odd e, List.length_cons]
      have h4 : ((n - (2 - n % 4)) / 2) % 2 = 0 := by omega
      rw [naf_even h4]
      have := naf_half k ((n - (2 - n % 4)) / 2 / 2) (p + 1 + 1) (by omega)
      omega
theorem sz2901 : ∀ p : Nat, p ≤ 2901 → (toT (p : Int)).size ≤ 45 := by
  have h : ∀ p : Nat, p < 2902 → costF 13 p 0 ≤ 44 := by decide +kernel
  intro p hp
  rw [sz_cost p (by omega)]
  have := h p (by omega)
  omega
theorem size_2900 {n : Int} (h : n.natAbs ≤ 2 ^ 2901) : (toT n).size < 100000 := by
  rw [size_toT]
  have h1 := naf_half 2901 n 0 h
  have h2 := sum_all ((naf n 0).map (·.2)) (fun q : Nat => (toT (q : Int)).size) 45 fun q hq => by
    obtain ⟨x, hx, rfl⟩ := List.mem_map.mp hq
    exact sz2901 x.2 (naf_le h hx)
  rw [List.length_map] at h2
  omega
theorem cb_2900 {n : Int} (h : n.natAbs ≤ 2 ^ 2901) : n.natAbs < Cb 7 := lt_Cb7 (k := 2902) (Nat.lt_of_le_of_lt h (Nat.pow_lt_pow_right (by decide) (by decide))) (by decide)
theorem ht_2900 {n : Int} (h : n.natAbs ≤ 2 ^ 2901) : (toT n).height ≤ 6 := height_toT 6 n (cb_2900 h)
theorem lt_2900 {n : Nat} (h : n < 2 ^ 2900) : n ≤ 2 ^ 2901 := Nat.le_trans (Nat.le_of_lt h) (Nat.pow_le_pow_right (by decide) (by decide))
theorem dgs_2900 {n d : Nat} (h : Dgs n d) : d ≤ 2900 ↔ n < 2 ^ 2900 := by
  obtain ⟨h1, h2⟩ := h
  constructor
  · intro hd
    exact Nat.lt_of_lt_of_le h1 (Nat.pow_le_pow_right (by decide) hd)
  · intro hn
    apply Classical.byContradiction
    intro hd
    have h3 := h2 (by omega)
    have h4 : (2 : Nat) ^ 2900 ≤ 2 ^ (d - 1) := Nat.pow_le_pow_right (by decide) (by omega)
    omega
section
variable {K : PySem.W.Frag} {σ : L2.St} {H : Hp} {te tf tg : TE}
theorem er_lawOfI {n : Int} (h : Ev te σ H (.int n)) (hn : n.natAbs ≤ 2 ^ 2901) : ER (tCall (sp_law_of K 7) [] E0 (tCons te tNil)) σ H (fun v H2 => NumV K H2 v (toT n)) :=
  er_call1 (R1 := fun v _ => v = .int n) (er_is h) monoC fun v H1 e hv => ⟨n, hv, cb_2900 hn, by decide, Nat.le_trans hn (Nat.pow_le_pow_right (by decide) (by decide)), rfl⟩
theorem ev_fitsT {t : T} (h : ER te σ H (fun v H2 => NumV K H2 v t)) (hz : t.size < 100000) (hh : t.height < 45) : Ev (tCall (sp_law_fits K) [] E0 (tCons te tNil)) σ H (.bl (decide t.fits)) :=
  ev_er (er_call1 h numT.mono fun v H1 e hv => ⟨t, hv, hz, hh, rfl⟩)
theorem sqT_ty {a : Addr} {xs : List V} (h : SqT K H a xs) : TyX K H (.ref a) (.type "tuple") := by
  rcases h with (h | ⟨o, h⟩) | ⟨o, its, n, h1, h2, _⟩
  · exact .base (.tup h)
  · exact .fTuple h
  · exact .kTuple h1 h2
theorem ev_isTup {t : T} (h : ER te σ H (fun v H2 => NumV K H2 v t)) : Ev (tCB (rIsi K) (tCons te (tCons (tC (.ty "tuple")) tNil))) σ H (.bl true) := fun H1 e Q q => by
  have ea : EA (tCons te (tCons (tC (.ty "tuple")) tNil)) σ H (fun vs H2 => ∃ v w, vs = [v, w] ∧ NumV K H2 v t ∧ w = .ty "tuple") := ea_two (R' := fun w _ => w = .ty "tuple") h numT.mono (er_is ev_c) monoC
  refine ea H1 e _ fun vs H2 e2 ⟨v, w, hv, h1, h2⟩ => ?_
  subst hv h2
  obtain ⟨a, xs, rfl, hs, _⟩ := h1.out
  exact ⟨.ref a, .ty "tuple", .type "tuple", .type "tuple", true, rfl, .ty _, sqT_ty hs, kit_ty (by decide +kernel), q H2 e2⟩
theorem ev_isInt {i : Int} (h : Ev te σ H (.int i)) : Ev (tCB (rIsi K) (tCons te (tCons (tC (.ty "int")) tNil))) σ H (.bl true) :=
  ev_cb (ea_cons h (ea_cons ev_c ea_nil)) fun H1 _ Q q => ⟨.int i, .ty "int", .type "int", .type "int", true, rfl, .ty _, .base (by constructor), kit_ty (by decide +kernel), q H1 (Ex.refl _)⟩
theorem ev_noBool {i : Int} (h : Ev te σ H (.int i)) : Ev (tCB (rIsi K) (tCons te (tCons (tC (.ty "bool")) tNil))) σ H (.bl false) :=
  ev_cb (ea_cons h (ea_cons ev_c ea_nil)) fun H1 _ Q q => ⟨.int i, .ty "bool", .type "int", .type "bool", false, rfl, .ty _, .base (by constructor), kit_ty (by decide +kernel), q H1 (Ex.refl _)⟩
/-- isinstance(e, C) in the suite -/
theorem ev_isErr {CN c a d : Addr} {i : Nat} {b : Bool} (hd : ErrAt K CN d H) (hv : σ[i]? = some (some (.ref a))) (hk : PySem.W.kitOne K (.ref CN) (.ref c) = some b) : Ev (tCB (rIsEc K CN a (.ref CN) (some d)) (tCons (tVar i) (tCons (tC (.ref c)) tNil))) σ H (.bl b) :=
  ev_cb (ea_cons (ev_var hv) (ea_cons ev_c ea_nil)) fun H1 e1 Q q => ⟨(hd.ex e1).cau, .ref c, .ref c, b, rfl, fun u r => r, hk, q H1 (Ex.refl _)⟩
end
/-! ### of_int, told -/
def pOfTold : V → Hp → VP → Prop := fun x H R => ∃ n : Int, x = .int n ∧ n.natAbs ≤ LB ∧ R = fun v _ => v = .bl true
def sp_law_of_told (K : PySem.W.Frag) : Sp := spF1 pOfTold
def t_law_of_told (K : PySem.W.Frag) (a_NotAllowed : Addr) (a_ReckonError : Addr) (a_TooLarge : Addr) : TS := (tSeq (tAsg (tCall (sp_law_digits1 K) [] E0 (tCons (tVar 0) tNil)) (gName 1))
    (tSeq (tAsg (tC .non) (gName 2))
    (tSeq (tIfS (tTest (tOp xLe (tVar 1) (tC (.int 2900)))) (tAsg (tCall (sp_law_of K 7) [] E0 (tCons (tVar 0) tNil)) (gName 2)) tNext)
    (tSeq (fun D σ H => (fun W => (tAsg (tCallS (sp_of_int K a_NotAllowed a_TooLarge) (WE W) (tCons (tVar 0) tNil)) (gName 4))) (wAs K (.ref a_NotAllowed) 3 (fun a cls d => (tRet (tAndV (tOp xGt (tVar 1) (tC (.int 2900))) (tAndV (tCB (rIsEc K a_NotAllowed a cls d) (tCons (tVar 3) (tCons (tC (.ref a_ReckonError)) tNil))) (tNotV (tCB (rIsEc K a_NotAllowed a cls d) (tCons (tVar 3) (tCons (tC (.ref a_TooLarge)) tNil)))))))) (wAs K (.ref a_TooLarge) 3 (fun a cls d => (tRet (tAndV (tOp xNotN (tVar 2) (tC .non)) (tAndV (tNotV (tCall (sp_law_fits K) [] E0 (tCons (tVar 2) tNil))) (tCB (rIsEc K a_TooLarge a cls d) (tCons (tVar 3) (tCons (tC (.ref a_ReckonError)) tNil))))))) (fun _ _ _ _ => False) D) D) D σ H)
    (tRet (tAndV (tOp xNotN (tVar 2) (tC .non)) (tAndV (tCall (sp_law_fits K) [] E0 (tCons (tVar 2) tNil)) (tAndV (tCB (rIsi K) (tCons (tVar 4) (tCons (tC (.ty "tuple")) tNil))) (tOp (rEqN K) (tVar 4) (tVar 2))))))))))
theorem pure_law_of_told {K : PySem.W.Frag} {a_NotAllowed a_ReckonError a_TooLarge : Addr} (hx1 : PySem.W.exmOne K (.ref a_NotAllowed) (.ref a_NotAllowed) = some true) (hx2 : PySem.W.exmOne K (.ref a_TooLarge) (.ref a_NotAllowed) = some false) (hx3 : PySem.W.exmOne K (.ref a_TooLarge) (.ref a_TooLarge) = some true) (hR1 : PySem.W.kitOne K (.ref a_NotAllowed) (.ref a_ReckonError) = some true) (hT1 : PySem.W.kitOne K (.ref a_NotAllowed) (.ref a_TooLarge) = some false) (hR2 : PySem.W.kitOne K (.ref a_TooLarge) (.ref a_ReckonError) = some true)
    {vs : List V} {H : Hp} {Q : VK} {E : XK} (h : sp_law_of_told K vs H Q E) : t_law_of_told K a_NotAllowed a_ReckonError a_TooLarge { nx := fun _ H' => Q .non H', rt := Q } (start ["value", "digits", "due", "e", "told"] vs) H := by
  obtain ⟨x, R, rfl, ⟨n, rfl, hn, rfl⟩, k⟩ := h
  refine q_asgR (er_call1 (R := fun v _ => ∃ d : Nat, v = .int (d : Int) ∧ Dgs n.natAbs d) (R1 := fun v _ => v = .int n) (er_is (ev_var rfl)) monoC fun v H1 e1 g => ⟨n, g, hn, rfl⟩) fun dv H1 e1 ⟨d, hv, hd⟩ => ?_
  subst hv
  have hdd := dgs_2900 hd
  refine q_asg ev_c fun H2 e2 => ?_
  have main : ∀ (due : V) (H3 : Hp), Ex H H3 → ((n.natAbs < 2 ^ 2900 ∧ NumV K H3 due (toT n)) ∨ (¬ n.natAbs < 2 ^ 2900 ∧ due = .non)) → tSeq (fun D σ H => (fun W => (tAsg (tCallS (sp_of_int K a_NotAllowed a_TooLarge) (WE W) (tCons (tVar 0) tNil)) (gName 4))) (wAs K (.ref a_NotAllowed) 3 (fun a cls d => (tRet (tAndV (tOp xGt (tVar 1) (tC (.int 2900))) (tAndV (tCB (rIsEc K a_NotAllowed a cls d) (tCons (tVar 3) (tCons (tC (.ref a_ReckonError)) tNil))) (tNotV (tCB (rIsEc K a_NotAllowed a cls d) (tCons (tVar 3) (tCons (tC (.ref a_TooLarge)) tNil)))))))) (wAs K (.ref a_TooLarge) 3 (fun a cls d => (tRet (tAndV (tOp xNotN (tVar 2) (tC .non)) (tAndV (tNotV (tCall (sp_law_fits K) [] E0 (tCons (tVar 2) tNil))) (tCB (rIsEc K a_TooLarge a cls d) (tCons (tVar 3) (tCons (tC (.ref a_ReckonError)) tNil))))))) (fun _ _ _ _ => False) D) D) D σ H)
    (tRet (tAndV (tOp xNotN (tVar 2) (tC .non)) (tAndV (tCall (sp_law_fits K) [] E0 (tCons (tVar 2) tNil)) (tAndV (tCB (rIsi K) (tCons (tVar 4) (tCons (tC (.ty "tuple")) tNil))) (tOp (rEqN K) (tVar 4) (tVar 2)))))) { nx := fun _ H' => Q .non H', rt := Q } [some (.int n), some (.int (d : Int)), some due, none, none] H3 := by
    intro due H3 e3 hdue
    refine xs_call1 (R1 := fun v _ => v = .int n) (er_is (ev_var rfl)) monoC _ fun v H4 e4 hv => ⟨fun v H' => NumV K H' v (toT n) ∧ n.natAbs < 2 ^ 2900 ∧ (toT n).fits, fun C => (C = a_NotAllowed ∧ ¬ n.natAbs < 2 ^ 2900) ∨ (C = a_TooLarge ∧ n.natAbs < 2 ^ 2900 ∧ ¬ (toT n).fits), ⟨n, hv, fun hlt => ⟨szk_of (size_2900 (lt_2900 hlt)), fun hf v H' g => ⟨g, hlt, hf⟩, fun hf => .inr ⟨rfl, hlt, hf⟩⟩, fun hlt => .inl ⟨rfl, hlt⟩⟩, fun w H5 e5 ⟨hw, hlt, hf⟩ => ?_, fun C H5 e5 hC dd hdd' => ?_⟩
    · rcases hdue with ⟨_, hdn⟩ | ⟨hge, _⟩
      · have e35 := e4.trans e5
        have hde : ∀ {σ : L2.St} {H6 : Hp}, σ[2]? = some (some due) → Ex H5 H6 → ER (tVar 2) σ H6 (fun v H2 => NumV K H2 v (toT n)) := fun h e => er_var h fun H7 e7 => hdn.ex (e35.trans (e.trans e7))
        have hnn : due ≠ .non := by
          obtain ⟨a, xs, rfl, _⟩ := hdn.out
          exact fun z => by cases z
        refine s_ret (v := .bl true) (ev_is (ev_andV (a := true) (b := true && (true && true)) (ev_is (ev_notN (ev_var rfl)) (by rw [decide_eq_false hnn] <;> rfl)) fun _ => ev_andV (a := true) (b := true && true) (ev_is (ev_fitsT (hde rfl (Ex.refl _)) (size_2900 (lt_2900 hlt)) (by have := ht_2900 (lt_2900 hlt); omega)) (by rw [decide_eq_true hf])) fun _ => ev_andV (a := true) (b := true) (ev_isTup (er_var rfl fun H7 e7 => hw.ex e7)) fun _ => ev_is (ev_eqN (er_var rfl fun H7 e7 => hw.ex e7) (hde rfl (Ex.refl _)) (by have := ht_2900 (lt_2900 hlt); omega)) (by rw [decide_eq_true rfl])) rfl) fun H6 e6 => k _ _ (e3.trans (e35.trans e6)) rfl
      · exact absurd hlt hge
    · have e35 := e4.trans e5
      rcases hC with ⟨rfl, hge⟩ | ⟨rfl, hlt, hf⟩
      · refine ⟨true, hx1, fun _ a ha => ?_, fun h => by cases h⟩
        refine s_ret (v := .bl true) (ev_is (ev_andV (a := true) (b := true && !false) (ev_is (ev_gt (ev_var rfl) ev_c) (congrArg V.bl (decide_eq_true (by have := fun h => hge (hdd.mp h); omega)))) fun _ => ev_andV (a := true) (b := !false) (ev_isErr hdd' rfl hR1) fun _ => ev_notV (ev_isErr hdd' rfl hT1)) rfl) fun H6 e6 => k _ _ (e3.trans (e35.trans e6)) rfl
      · refine ⟨false, hx2, (fun h => by cases h), fun _ => ⟨true, hx3, fun _ a ha => ?_, fun h => by cases h⟩⟩
        rcases hdue with ⟨_, hdn⟩ | ⟨hge, _⟩
        · have hnn : due ≠ .non := by
            obtain ⟨a, xs, rfl, _⟩ := hdn.out
            exact fun z => by cases z
          refine s_ret (v := .bl true) (ev_is (ev_andV (a := true) (b := !false && true) (ev_is (ev_notN (ev_var rfl)) (by rw [decide_eq_false hnn] <;> rfl)) fun _ => ev_andV (a := !false) (b := true) (ev_notV (ev_is (ev_fitsT (er_var rfl fun H7 e7 => hdn.ex (e35.trans e7)) (size_2900 (lt_2900 hlt)) (by have := ht_2900 (lt_2900 hlt); omega)) (by rw [decide_eq_false hf]))) fun _ => ev_isErr hdd' rfl hR2) rfl) fun H6 e6 => k _ _ (e3.trans (e35.trans e6)) rfl
        · exact absurd hlt hge
  refine q_when (et_test (ev_le (ev_var rfl) ev_c)) (fun hb H3 e3 => ?_) (fun hb H3 e3 => ?_)
  · have hd' := of_decide_eq_true hb
    have hlt := hdd.mp (by omega)
    refine s_asgR (er_lawOfI (ev_var rfl) (lt_2900 hlt)) fun due H4 e4 g => main due H4 (e1.trans (e2.trans (e3.trans e4))) (.inl ⟨hlt, g⟩)
  · have hd' := of_decide_eq_false hb
    exact main .non H3 (e1.trans (e2.trans e3)) (.inr ⟨fun h => by have := hdd.mpr h; omega, rfl⟩)
/-! ### to_int, told -/
def pToTold (K : PySem.W.Frag) : V → V → Hp → VP → Prop := fun x y H R => ∃ t : T, NumV K H x t ∧ t.can ∧ t.height ≤ 44 ∧ t.size < 100000 ∧ (y = .int t.val ∨ (y = .non ∧ ¬ t.val.natAbs < 2 ^ 64)) ∧ R = fun v _ => v = .bl true
def sp_law_to_told (K : PySem.W.Frag) : Sp := spF2 (pToTold K)
def t_law_to_told (K : PySem.W.Frag) (a_BadRange : Addr) (a_NotAllowed : Addr) (a_ReckonError : Addr) : TS := (tSeq (fun D σ H => (fun W => (tAsg (tCallS (sp_to_int K a_NotAllowed) (WE W) (tCons (tVar 0) tNil)) (gName 3))) (wAs K (.ref a_NotAllowed) 2 (fun a cls d => (tRet (tAndV (tOrV (tOp xIsN (tVar 1) (tC .non)) (tOp xGe (tCB xAbs (tCons (tVar 1) tNil)) (tOp xPow (tC (.int 2)) (tC (.int 64))))) (tAndV (tCB (rIsEc K a_NotAllowed a cls d) (tCons (tVar 2) (tCons (tC (.ref a_ReckonError)) tNil))) (tNotV (tCB (rIsEc K a_NotAllowed a cls d) (tCons (tVar 2) (tCons (tC (.ref a_BadRange)) tNil)))))))) (fun _ _ _ _ => False) D) D σ H)
    (tRet (tAndV (tOp xNotN (tVar 1) (tC .non)) (tAndV (tCB (rIsi K) (tCons (tVar 3) (tCons (tC (.ty "int")) tNil))) (tAndV (tNotV (tCB (rIsi K) (tCons (tVar 3) (tCons (tC (.ty "bool")) tNil)))) (tOp rEq (tVar 3) (tVar 1)))))))
theorem pure_law_to_told {K : PySem.W.Frag} {a_BadRange a_NotAllowed a_ReckonError : Addr} (hx1 : PySem.W.exmOne K (.ref a_NotAllowed) (.ref a_NotAllowed) = some true) (hR1 : PySem.W.kitOne K (.ref a_NotAllowed) (.ref a_ReckonError) = some true) (hB1 : PySem.W.kitOne K (.ref a_NotAllowed) (.ref a_BadRange) = some false)
    {vs : List V} {H : Hp} {Q : VK} {E : XK} (h : sp_law_to_told K vs H Q E) : t_law_to_told K a_BadRange a_NotAllowed a_ReckonError { nx := fun _ H' => Q .non H', rt := Q } (start ["number", "value", "e", "told"] vs) H := by
  obtain ⟨x, y, R, rfl, ⟨t, hx, hc, hh, hz, hy, rfl⟩, k⟩ := h
  refine xs_call1 (R1 := fun v H' => NumV K H' v t) (er_var rfl fun H2 e2 => hx.ex e2) numT.mono _ fun v H1 e1 hv => ⟨fun v _ => v = .int t.val ∧ t.val.natAbs < 2 ^ 64, fun C => C = a_NotAllowed ∧ ¬ t.val.natAbs < 2 ^ 64, ⟨t, hv, hc, hh, hz, fun h H' => ⟨rfl, h⟩, fun h => ⟨rfl, h⟩⟩, fun w H2 e2 ⟨hw, hlt⟩ => ?_, fun C H2 e2 hC dd hdd => ?_⟩
  · subst hw
    rcases hy with rfl | ⟨_, hge⟩
    · refine s_ret (v := .bl true) (ev_is (ev_andV (a := true) (b := true && (!false && true)) (ev_is (ev_notN (ev_var rfl)) rfl) fun _ => ev_andV (a := true) (b := !false && true) (ev_isInt (ev_var rfl)) fun _ => ev_andV (a := !false) (b := true) (ev_notV (ev_noBool (ev_var rfl))) fun _ => ev_is (ev_eq (ev_var rfl) (ev_var rfl) rfl) (by rw [decide_eq_true rfl])) rfl) fun H3 e3 => k _ _ (e1.trans (e2.trans e3)) rfl
    · exact absurd hlt hge
  · obtain ⟨rfl, hge⟩ := hC
    refine ⟨true, hx1, fun _ a ha => ?_, fun h => by cases h⟩
    have hor : Ev (tOrV (tOp xIsN (tVar 1) (tC .non)) (tOp xGe (tCB xAbs (tCons (tVar 1) tNil)) (tOp xPow (tC (.int 2)) (tC (.int 64))))) ([some x, some y, some (.ref a), none]) H2 (.bl true) := by
      rcases hy with rfl | ⟨rfl, _⟩
      · refine ev_is (ev_orV (a := false) (b := true) (ev_is (ev_isN (ev_var rfl)) rfl) fun _ => ev_is (ev_ge (ev_abs (ev_var rfl)) (ev_pow ev_c ev_c ⟨by decide, by decide, by decide⟩)) (congrArg V.bl (decide_eq_true ?_))) rfl
        have h64 : (2 : Int) ^ (64 : Int).toNat = 18446744073709551616 := by decide
        rw [h64]
        split <;> omega
      · exact ev_is (ev_orV (a := true) (b := true) (ev_is (ev_isN (ev_var rfl)) rfl) fun h => by cases h) rfl
    refine s_ret (v := .bl true) (ev_is (ev_andV (a := true) (b := true && !false) hor fun _ => ev_andV (a := true) (b := !false) (ev_isErr hdd rfl hR1) fun _ => ev_notV (ev_isErr hdd rfl hB1)) rfl) fun H3 e3 => k _ _ (e1.trans (e2.trans e3)) rfl
end Sk

set_option Elab.async false
set_option linter.all false
set_option maxRecDepth 100000
set_option maxHeartbeats 1000000
namespace Sk
open PySem L2 Evl
/-! ### counts and their value -/
theorem tot_abs {M : Nat} : ∀ {l : List (Nat × Int)}, (∀ x ∈ l, x.1 ≤ M) → (totC l).natAbs ≤ (l.map fun x => x.2.natAbs).sum * 2 ^ M
  | [], _ => by show Int.natAbs 0 ≤ _; exact Nat.zero_le _
  | x :: l, h => by
    have ih := tot_abs (l := l) fun y hy => h y (List.mem_cons_of_mem _ hy)
    have hx := h x List.mem_cons_self
    have e : totC (x :: l) = x.2 * 2 ^ x.1 + totC l := by unfold totC; rw [List.map_cons, List.sum_cons]
    have h1 : (x.2 * 2 ^ x.1).natAbs ≤ x.2.natAbs * 2 ^ M := by
      rw [Int.natAbs_mul, Int.natAbs_pow, show Int.natAbs 2 = 2 from rfl]
      exact Nat.mul_le_mul (Nat.le_refl _) (Nat.pow_le_pow_right (by decide) hx)
    rw [e, List.map_cons, List.sum_cons, Nat.add_mul]
    exact Nat.le_trans (Int.natAbs_add_le _ _) (Nat.add_le_add h1 ih)
theorem wt_tot : ∀ {l : List (Nat × Int)}, wt (totC l) ≤ (l.map fun x => x.2.natAbs).sum
  | [] => by show wt 0 ≤ 0; rw [wt_zero]; exact Nat.le_refl 0
  | x :: l => by
    have ih := wt_tot (l := l)
    have e : totC (x :: l) = x.2 * 2 ^ x.1 + totC l := by unfold totC; rw [List.map_cons, List.sum_cons]
    have h1 : wt (x.2 * 2 ^ x.1) ≤ x.2.natAbs := by
      have : wt (2 ^ x.1 * x.2) = wt x.2 := by
        unfold wt
        rw [naf_shift]
        exact naf_len_p _ _ _ _ (Nat.le_refl _)
      rw [Int.mul_comm, this]
      exact wt_le_abs _ _ (Nat.le_refl _)
    rw [e, List.map_cons, List.sum_cons]
    exact Nat.le_trans (wt_add _ _) (Nat.add_le_add h1 ih)
theorem toT_inj {a b : Int} (h : toT a = toT b) : a = b := by
  have := congrArg T.val h
  rw [toT_val, toT_val] at this
  exact this
theorem rows_naf {P : Nat} {l : List (Nat × Int)} {rows : List (Int × Nat)} (h : RowsOut P l rows) : rows = naf (totC l) 0 := by
  have hcan : (rowsT rows).can := by
    refine can_ofL (fun x hx => ?_) ?_
    · obtain ⟨y, hy, rfl⟩ := List.mem_map.mp hx
      exact ⟨h.sg y (List.mem_reverse.mp hy), by show 0 ≤ (toT (y.2 : Int)).val; rw [toT_val]; omega, toT_can _⟩
    · rw [List.pairwise_map, List.pairwise_reverse]
      refine h.gap.imp fun {x y} h => ?_
      show (toT (x.2 : Int)).val + 2 ≤ (toT (y.2 : Int)).val
      rw [toT_val, toT_val]
      omega
  have hval : (rowsT rows).val = totC l := by
    unfold rowsT
    rw [val_rows, sumP_reverse, h.val]
  have e := can_eq hcan
  rw [hval] at e
  have e2 := congrArg T.toL e
  rw [toL_toT] at e2
  unfold rowsT at e2
  rw [toL_ofL] at e2
  have inj : ∀ (a b : List (Int × Nat)), a.map (fun x : Int × Nat => (x.1, toT (x.2 : Int))) = b.map (fun x : Int × Nat => (x.1, toT (x.2 : Int))) → a = b := by
    intro a
    induction a with
    | nil =>
      intro b hb
      cases b with
      | nil => rfl
      | cons => cases hb
    | cons x a ih =>
      intro b hb
      cases b with
      | nil => cases hb
      | cons y b =>
        rw [List.map_cons, List.map_cons, List.cons.injEq, Prod.mk.injEq] at hb
        obtain ⟨⟨h1, h2⟩, h3⟩ := hb
        have h4 := toT_inj h2
        rw [ih b h3, show x = y from Prod.ext h1 (by omega)]
  have e3 := congrArg List.reverse (inj _ _ e2)
  rw [List.reverse_reverse, List.reverse_reverse] at e3
  exact e3
/-- a dict of counts of the value W -/
def VDict (W : Int) : VP := fun v H => ∃ (d : Addr) (l : List (Nat × Int)) (N C : Nat), v = .ref d ∧ H d = some (.dK (dk l)) ∧ CtsL N C l ∧ N ≤ 1000 ∧ 2 * (2 * N + C) + 1 < 9000 ∧ totC l = W
theorem vDict (W : Int) : Mono (VDict W) := fun v H H' e ⟨d, l, N, C, h1, h2, h3⟩ => ⟨d, l, N, C, h1, e d _ h2, h3⟩
/-! ### the law's number, by the weight -/
def pNum4 (K : PySem.W.Frag) : V → Hp → VP → Prop := fun x H R => ∃ W : Int, VDict W x H ∧ R = fun v H' => NumV K H' v (toT W)
def sp_law_number4 (K : PySem.W.Frag) : Sp := spF1 (pNum4 K)
def t_law_number4 (K : PySem.W.Frag) : TS := (tRet (tThen (tLc (iList K (tCall (sp_law_rows K) [] E0 (tCons (tVar 0) tNil))) (gName 1) tYes (tTup (tCons (tOp (rIxT K) (tVar 1) (tC (.int 0))) (tCons (tCall (sp_law_of K 7) [] E0 (tCons (tOp (rIxT K) (tVar 1) (tC (.int 1))) tNil)) tNil))) [1]) (kTup K)))
theorem pure_law_number4 {K : PySem.W.Frag} {vs : List V} {H : Hp} {Q : VK} {E : XK} (h : sp_law_number4 K vs H Q E) : t_law_number4 K { nx := fun _ H' => Q .non H', rt := Q } (start ["counts", "row"] vs) H := by
  obtain ⟨x, R, rfl, ⟨W, ⟨d, l, N, C, rfl, hd, hl, hN, hP, rfl⟩, rfl⟩, k⟩ := h
  refine s_retR (R := fun v H' => NumV K H' v (toT (totC l))) (fun H0 e0 Qk qq => ?_) fun v H1 e1 h => k v H1 e1 h
  refine er_tupleOf (K := K) (R := fun zs H2 => ∃ rows, RowsOut (2 * (2 * N + C) + 1) l rows ∧ ItemsR (TermI K) (rows.reverse.map fun x : Int × Nat => (x.1, toT (x.2 : Int))) zs H2) ?_ (fun zs H1 H2 e ⟨rows, h1, h2⟩ => ⟨rows, h1, h2.tex termI (Ex.t e)⟩) H0 e0 _ fun v H1 e1 ⟨p, zs, hv, g1, rows, g2, g3⟩ => qq v H1 e1 ?_
  · refine (er_lcL (S := fun xs H2 => ∃ rows, RowsOut (2 * (2 * N + C) + 1) l rows ∧ ItemsR PairI rows.reverse xs H2) (R := fun xs i v H2 => ∃ z a, xs[i]? = some z ∧ PairI a z H2 ∧ TermI K (a.1, toT (a.2 : Int)) v H2)
      ((er_call1 (R1 := fun v _ => v = .ref d) (er_is (ev_var rfl)) monoC (fun v H2 e2 hv => ⟨d, l, N, C, hv, e2 d _ hd, hl, hN, hP, rfl⟩)).imp fun v H2 e2 ⟨rows, hr, p, ys, hv, hp, hit⟩ => ⟨p, ys, hv, sq_of hp, rows, hr, hit⟩)
      (fun xs H1 H2 e ⟨rows, h1, h2⟩ => ⟨rows, h1, h2.tex pairI (Ex.t e)⟩) (fun xs H2 ⟨rows, h1, h2⟩ => by rw [h2.1, List.length_reverse]; have := h1.len; omega)
      (fun xs i v H1 H2 e ⟨z, a, h1, h2, h3⟩ => ⟨z, a, h1, pairI a z _ _ e h2, termI _ v _ _ e h3⟩) ?_).imp ?_
    · rintro xs i x H1 hi e1 ⟨rows, hr, hit⟩ Qk2 kk
      obtain ⟨⟨s, pl⟩, ha, q, rfl, hq⟩ := hit.of_at hi
      have hm : (s, pl) ∈ rows := List.mem_reverse.mp (List.mem_of_getElem? ha)
      have hpl := hr.ht _ hm
      have hp97 : pl ≤ 2 ^ 102 := by
        have h2 : (2 : Nat) ^ 101 + 9000 ≤ 2 ^ 102 := by decide
        have h3 : pl ≤ 2 ^ 101 + 9001 := hpl
        omega
      refine ⟨rfl, ?_⟩
      refine (er_tup (ea_two (R := fun v _ => v = .int s) (R' := fun v H2 => NumV K H2 v (toT (pl : Int))) (er_is (ev_atT (ev_var rfl) ev_c (st_of hq) rfl)) monoC (er_call1 (R1 := fun v _ => v = .int (pl : Int)) (er_is (ev_atT (ev_var rfl) ev_c (st_of hq) rfl)) monoC fun v H2 e2 hv => ⟨pl, hv, lt_Cb7 (k := 103) (by
          have : ((pl : Nat) : Int).natAbs = pl := Int.natAbs_natCast pl
          rw [this]
          have h2 : (2 : Nat) ^ 103 = 2 ^ 102 * 2 := Nat.pow_succ 2 102
          have h3 : 0 < 2 ^ 102 := Nat.two_pow_pos 102
          omega) (by decide), by decide, by
          have : ((pl : Nat) : Int).natAbs = pl := Int.natAbs_natCast pl
          rw [this]
          exact Nat.le_trans hp97 (Nat.pow_le_pow_right (by decide) (by decide)), rfl⟩) (numT.mono))
        (fun vs H2 H3 e ⟨v, w, h1, h2, h3⟩ => ⟨v, w, h1, h2, h3.ex e⟩) (fun vs H2 ⟨v, w, h1, _⟩ => by rw [h1]; show 2 ≤ 100000; omega)) H1 (Ex.refl H1) _ fun v H2 e2 ⟨p, vs, hv, h1, u, w, h2, h3, h4⟩ => kk v H2 e2 ⟨.ref q, (s, pl), hi, ⟨q, rfl, e2 q _ hq⟩, p, w, hv, st_of (by rw [h1, h2, h3]), h4⟩
    · rintro v H1 e1 ⟨p, xs, ys, hv, _, hp, ⟨rows, hr, hit⟩, hlen, hR⟩
      refine ⟨p, ys, hv, sq_of hp, rows, hr, ⟨by rw [List.length_map, hlen, hit.1], fun i y a g1 g2 => ?_⟩⟩
      obtain ⟨z, b, k1, ⟨q, rfl, k2⟩, k3⟩ := hR i y g1
      obtain ⟨c, k4, q', k5, k6⟩ := hit.of_at k1
      injection k5 with k5
      subst k5
      rw [k2] at k6
      injection k6 with k6
      injection k6 with k6
      injection k6 with m1 m2
      injection m2 with m2 m3
      injection m1 with m1
      injection m2 with m2
      rw [List.getElem?_map, k4] at g2
      injection g2 with g2
      have hcb : c = b := by
        obtain ⟨c1, c2⟩ := c
        obtain ⟨b1, b2⟩ := b
        have h1 : b1 = c1 := m1
        have h2 : (b2 : Int) = (c2 : Int) := m2
        have h3 : b2 = c2 := by omega
        rw [h1, h3]
      rw [← g2, hcb]
      exact k3
  · rw [hv, toT_eq, ← rows_naf g2]
    exact NumV.mk (st_of g1) (terms_items g3)
end Sk

set_option Elab.async false
set_option linter.all false
set_option maxRecDepth 100000
set_option maxHeartbeats 1000000
namespace Sk
open PySem L2 Evl
/-! ### terms moved -/
theorem naf_off (a b : Nat) : ∀ (k : Nat) (x : Int), x.natAbs ≤ k → ∀ i : Nat, (naf x (i + a)).map (fun z => (z.1, z.2 + b)) = (naf x (i + b)).map fun z => (z.1, z.2 + a)
  | 0, x, h, i => by
    have : x = 0 := by omega
    subst this
    rw [naf_zero, naf_zero] <;> rfl
  | k + 1, x, h, i => by
    by_cases h0 : x = 0
    · subst h0; rw [naf_zero, naf_zero] <;> rfl
    rcases Int.emod_two_eq x with e | e
    · rw [naf_even e, naf_even e]
      have := naf_off a b k (x / 2) (by omega) (i + 1)
      rw [show i + 1 + a = i + a + 1 by omega, show i + 1 + b = i + b + 1 by omega] at this
      exact this
    · rw [naf_odd e, naf_odd e, List.map_cons, List.map_cons]
      congr 1
      · show (2 - x % 4, i + a + b) = (2 - x % 4, i + b + a)
        rw [show i + a + b = i + b + a by omega]
      · by_cases hz : (x - (2 - x % 4)) / 2 = 0
        · rw [hz, naf_zero, naf_zero] <;> rfl
        have := naf_off a b k ((x - (2 - x % 4)) / 2) (by omega) (i + 1)
        rw [show i + 1 + a = i + a + 1 by omega, show i + 1 + b = i + b + 1 by omega] at this
        exact this
theorem naf_offs {x : Int} {a b : Nat} {y : Int × Nat} (h : y ∈ naf x b) : ∃ z ∈ naf x a, y.1 = z.1 ∧ y.2 + a = z.2 + b := by
  have e := naf_off a b _ x (Nat.le_refl _) 0
  rw [Nat.zero_add, Nat.zero_add] at e
  have hm : (y.1, y.2 + a) ∈ (naf x b).map fun z => (z.1, z.2 + a) := List.mem_map.mpr ⟨y, h, rfl⟩
  rw [← e] at hm
  obtain ⟨z, hz, hzy⟩ := List.mem_map.mp hm
  rw [Prod.mk.injEq] at hzy
  exact ⟨z, hz, hzy.1.symm, hzy.2.symm⟩
def ShR (V p W : Int) : Prop := (V = 0 ∧ W = 0) ∨ ∃ (a : Nat) (x : Int), V = 2 ^ a * x ∧ x % 2 = 1 ∧ 0 ≤ (a : Int) + p ∧ W = 2 ^ ((a : Int) + p).toNat * x
def Wh (V p : Int) : Prop := ∀ x ∈ naf V 0, 0 ≤ (x.2 : Int) + p
instance (V p : Int) : Decidable (Wh V p) := inferInstanceAs (Decidable (∀ x ∈ naf V 0, 0 ≤ (x.2 : Int) + p))
theorem wh_iff {a : Nat} {x p : Int} (hx : x % 2 = 1) : Wh (2 ^ a * x) p ↔ 0 ≤ (a : Int) + p := by
  unfold Wh
  rw [naf_shift]
  constructor
  · intro h
    have := h (2 - x % 4, 0 + a) (by rw [naf_odd hx]; exact List.mem_cons_self)
    show 0 ≤ (a : Int) + p
    have e : ((0 + a : Nat) : Int) = a := by omega
    omega
  · intro h y hy
    have := (naf_mem_ge _ x (Nat.le_refl _) _ y hy).1
    omega
theorem wh_zero (p : Int) : Wh 0 p := by unfold Wh; rw [naf_zero]; exact fun x h => by cases h
theorem shR_ex {V p : Int} (h : Wh V p) : ∃ W, ShR V p W := by
  by_cases h0 : V = 0
  · exact ⟨0, .inl ⟨h0, rfl⟩⟩
  · obtain ⟨a, x, h1, h2, _⟩ := odd_part5 _ V (Nat.le_refl _) h0
    rw [h1] at h
    exact ⟨_, .inr ⟨a, x, h1, h2, (wh_iff h2).mp h, rfl⟩⟩
/-- how great a value's terms are -/
structure VOk (V : Int) (M : Nat) : Prop where
  wt : wt V ≤ 80
  le : ∀ x ∈ naf V 0, x.2 ≤ M
theorem size_104 {n : Nat} (h : n ≤ 2 ^ 104) : (toT (n : Int)).size ≤ 1061 := by
  have hp : ∀ x ∈ naf (n : Int) 0, x.2 ≤ 104 := fun x hx => naf_le (by simpa using h) hx
  have hl := gap_len (naf (n : Int) 0) 0 104 (naf_gap _ _ (Nat.le_refl _) 0) fun x hx => ⟨Nat.zero_le _, hp x hx⟩
  rw [size_toT]
  have := sum_all ((naf (n : Int) 0).map (·.2)) (fun p : Nat => (toT (p : Int)).size) 20 fun p hp' => by
    obtain ⟨x, hx, rfl⟩ := List.mem_map.mp hp'
    have := hp x hx
    exact sz128 x.2 (by omega)
  rw [List.length_map] at this
  omega
theorem big_104 {n : Nat} (h : n ≤ 2 ^ 104) : Big (n : Int) := Nat.le_trans (by simpa using h : (n : Int).natAbs ≤ 2 ^ 104) (Nat.pow_le_pow_right (by decide) (by decide))
theorem VOk.size {V : Int} (h : VOk V (2 ^ 104)) : (toT V).size < 85000 := by
  rw [size_toT]
  have := sum_all ((naf V 0).map (·.2)) (fun p : Nat => (toT (p : Int)).size) 1061 fun p hp' => by
    obtain ⟨x, hx, rfl⟩ := List.mem_map.mp hp'
    exact size_104 (h.le x hx)
  rw [List.length_map] at this
  have h2 : (naf V 0).length ≤ 80 := h.wt
  omega
theorem VOk.sub {V : Int} (h : VOk V (2 ^ 104)) : ∀ x ∈ (toT V).toL, PlOk x.2 := fun x hx => by
  rw [toL_toT] at hx
  obtain ⟨y, hy, rfl⟩ := List.mem_map.mp hx
  exact big_ok (big_104 (h.le y (List.mem_reverse.mp hy)))
theorem VOk.height {V : Int} (h : VOk V (2 ^ 104)) : (toT V).height ≤ 7 := by
  refine height_le_of fun x hx => ?_
  rw [toL_toT] at hx
  obtain ⟨y, hy, rfl⟩ := List.mem_map.mp hx
  have := height_toT 6 (y.2 : Int) (big_cb (big_104 (h.le y (List.mem_reverse.mp hy))))
  show (toT (y.2 : Int)).height + 1 ≤ 7
  omega
theorem VOk.len {V : Int} {M : Nat} (h : VOk V M) : (toT V).toL.length ≤ 80 := by rw [toL_toT, List.length_map, List.length_reverse]; exact h.wt
theorem VOk.mono {V : Int} {M M' : Nat} (h : VOk V M) (hm : M ≤ M') : VOk V M' := ⟨h.wt, fun x hx => Nat.le_trans (h.le x hx) hm⟩
theorem shR_ok {V p W : Int} {M m : Nat} (h : ShR V p W) (hv : VOk V M) (hp : p ≤ (m : Int)) : VOk W (M + m) := by
  rcases h with ⟨rfl, rfl⟩ | ⟨a, x, rfl, hx, h0, rfl⟩
  · exact hv.mono (Nat.le_add_right _ _)
  · obtain ⟨h1, h2⟩ := hv
    refine ⟨?_, fun y hy => ?_⟩
    · unfold Sk.wt at h1 ⊢
      rw [naf_shift] at h1 ⊢
      rw [naf_len_p _ x _ (0 + a) (Nat.le_refl _)]
      exact h1
    · rw [naf_shift] at hy
      obtain ⟨z, hz, _, e⟩ := naf_offs (a := 0 + a) hy
      have := h2 z (by rw [naf_shift]; exact hz)
      omega
/-! ### shift, by the value -/
theorem shift_last {V : Int} {l : List (Int × T)} {s : Int} {e : T} (h : (toT V).toL = l ++ [(s, e)]) : ∃ (a : Nat) (x : Int), V = 2 ^ a * x ∧ x % 2 = 1 ∧ e = toT (a : Int) := by
  have h0 : V ≠ 0 := by
    rintro rfl
    rw [toL_toT, naf_zero] at h
    cases l <;> cases h
  obtain ⟨a, x, rfl, hx, _⟩ := odd_part5 _ V (Nat.le_refl _) h0
  have hl := last_term (a := a) hx
  rw [h, List.length_append, List.length_singleton, Nat.add_sub_cancel, List.getElem?_append_right (Nat.le_refl _), Nat.sub_self] at hl
  injection hl with hl
  rw [Prod.mk.injEq] at hl
  exact ⟨a, x, rfl, hx, hl.2⟩
theorem pShift_of {K : PySem.W.Frag} {CB CL : Addr} {x y : V} {H : Hp} {R : VP} {W : WP} {V p : Int} (hx : NumV K H x (toT V)) (hy : NumV K H y (toT p)) (hv : VOk V (2 ^ 103)) (hp : p.natAbs ≤ 2 ^ 103)
    (hR : ∀ U, ShR V p U → (toT U).fits → ∀ v H', NumV K H' v (toT U) → R v H') (hB : ¬ Wh V p → W CB) (hL : ∀ U, ShR V p U → ¬ (toT U).fits → W CL) : pShift K CB CL x y H R W := by
  have hv4 := hv.mono (show 2 ^ 103 ≤ 2 ^ 104 by decide)
  have hB' : Big p := Nat.le_trans hp (Nat.pow_le_pow_right (by decide) (by decide))
  refine ⟨toT V, toT p, hx, hy, by have := hv.len; omega, hv4.sub, big_ok hB', fun h0 v H' g => ?_, fun l s e hs => ?_⟩
  · have hV : V = 0 := by
      apply Classical.byContradiction
      intro hne
      obtain ⟨a, x, rfl, hx, _⟩ := odd_part5 _ V (Nat.le_refl _) hne
      have hl := last_term (a := a) hx
      rw [h0] at hl
      cases hl
    subst hV
    refine hR 0 (.inl ⟨rfl, rfl⟩) ?_ v H' g
    rw [toT_eq, naf_zero]
    exact ⟨by decide, by decide⟩
  · obtain ⟨a, x, rfl, hx', rfl⟩ := shift_last hs
    rw [toT_val, toT_val]
    refine ⟨fun hneg => hB fun hw => by have := (wh_iff hx').mp hw; omega, fun hge => ?_⟩
    rw [shL_int x a p hge]
    have hsh : ShR (2 ^ a * x) p (2 ^ ((a : Int) + p).toNat * x) := .inr ⟨a, x, rfl, hx', hge, rfl⟩
    have hok := shR_ok (m := 2 ^ 103) hsh hv (by have : ((2 ^ 103 : Nat) : Int) = 2 ^ 103 := by decide
                                                 omega)
    have hz := (hok.mono (show 2 ^ 103 + 2 ^ 103 ≤ 2 ^ 104 by decide)).size
    exact ⟨szk_of (by omega), hR _ hsh, hL _ hsh⟩
theorem shR_uniq {V p W W' : Int} (h : ShR V p W) (h' : ShR V p W') : W = W' := by
  rcases h with ⟨h0, rfl⟩ | ⟨a, x, ha, hx, _, rfl⟩ <;> rcases h' with ⟨h0', rfl⟩ | ⟨b, y, hb, hy, _, rfl⟩
  · rfl
  · have h2 : (2 : Int) ^ b > 0 := Int.pow_pos (by decide)
    rw [h0] at hb
    rcases Int.mul_eq_zero.mp hb.symm with h | h <;> omega
  · have h2 : (2 : Int) ^ a > 0 := Int.pow_pos (by decide)
    rw [h0'] at ha
    rcases Int.mul_eq_zero.mp ha.symm with h | h <;> omega
  · rw [ha] at hb
    obtain ⟨e1, e2⟩ := odd_uniq hb hx hy
    rw [e1, e2]
section
variable {K : PySem.W.Frag} {CB CL : Addr} {σ : L2.St} {H : Hp} {te tf : TE}
theorem er_shift4 {V p W : Int} (h1 : ER te σ H (fun v H2 => NumV K H2 v (toT V))) (h2 : ER tf σ H (fun v H2 => NumV K H2 v (toT p))) (hv : VOk V (2 ^ 103)) (hp : p.natAbs ≤ 2 ^ 103) (hs : ShR V p W) (hf : (toT W).fits) :
    ER (tCall (sp_shift K CB CL) [] E0 (tCons te (tCons tf tNil))) σ H (fun v H2 => NumV K H2 v (toT W)) :=
  er_call (ea_two h1 numT.mono h2 numT.mono) fun vs H1 e1 ⟨v, w, hv', g1, g2⟩ => by
    subst hv'
    refine srx2 (P := pShift K CB CL) (pShift_of g1 g2 hv hp (fun U hU _ v H' g => by rw [shR_uniq hs hU]; exact g) (fun hw => hw ?_) fun U hU hnf => hnf (by rw [← shR_uniq hs hU]; exact hf))
    rcases hs with ⟨rfl, _⟩ | ⟨a, x, rfl, hx, h0, _⟩
    · exact wh_zero p
    · exact (wh_iff hx).mpr h0
end
end Sk

set_option Elab.async false
set_option linter.all false
set_option maxRecDepth 100000
set_option maxHeartbeats 1000000
namespace Sk
open PySem L2 Evl
/-! ### numbers of moderate size -/
structure Sz (n : Int) (s h : Nat) : Prop where
  sz : (toT n).size ≤ s
  ht : (toT n).height ≤ h
theorem Sz.mono {n : Int} {s h s' h' : Nat} (z : Sz n s h) (hs : s ≤ s') (hh : h ≤ h') : Sz n s' h' := ⟨Nat.le_trans z.sz hs, Nat.le_trans z.ht hh⟩
theorem sz_fits {n : Int} (h : (toT n).fits) : Sz n 300 40 := ⟨h.1, h.2⟩
theorem place_mem {n : Int} {x : Int × Nat} (hx : x ∈ naf n 0) : (toT (x.2 : Int)).size < (toT n).size ∧ (toT (x.2 : Int)).height < (toT n).height :=
  mem_size (x := (x.1, toT (x.2 : Int))) (by rw [toL_toT]; exact List.mem_map.mpr ⟨x, List.mem_reverse.mpr hx, rfl⟩)
theorem Sz.place {n : Int} {s h : Nat} (z : Sz n (s + 1) (h + 1)) {x : Int × Nat} (hx : x ∈ naf n 0) : Sz (x.2 : Int) s h := by
  have := place_mem hx
  have := z.sz
  have := z.ht
  exact ⟨by omega, by omega⟩
theorem ht_zero : (toT 0).height = 0 := by rw [toT_eq, naf_zero]; rfl
theorem ht_one : (toT 1).height = 1 := by decide +kernel
theorem ht_pos {n : Int} (h : n ≠ 0) : 1 ≤ (toT n).height := by
  obtain ⟨x, hx⟩ := List.exists_mem_of_ne_nil _ (naf_ne (p := 0) h)
  have := place_mem hx
  omega
theorem ht_of {n : Int} {k : Nat} (h : ∀ x ∈ naf n 0, (toT (x.2 : Int)).height + 1 ≤ k) : (toT n).height ≤ k := height_le_of fun x hx => by
  rw [toL_toT] at hx
  obtain ⟨y, hy, rfl⟩ := List.mem_map.mp hx
  exact h y (List.mem_reverse.mp hy)
theorem ht_succ : ∀ (k q : Nat), q ≤ k → (toT ((q : Int) + 1)).height ≤ max (toT (q : Int)).height 1 + 1
  | k, 0, _ => by
    have : (toT (((0 : Nat) : Int) + 1)).height = 1 := ht_one
    omega
  | 0, q + 1, h => by omega
  | k + 1, q + 1, h => by
    refine ht_of fun x hx => Nat.succ_le_succ (add_place (q + 1 : Nat) 1 (fun p => (toT (p : Int)).height ≤ max (toT ((q + 1 : Nat) : Int)).height 1) (fun y hy => ?_) (fun y hy => ?_) x hx)
    · have h1 := place_mem hy
      have hl := naf_lt hy
      rw [Int.natAbs_natCast] at hl
      refine ⟨by omega, ?_⟩
      by_cases h0 : y.2 = 0
      · rw [h0]; have : (toT ((0 + 1 : Nat) : Int)).height = 1 := ht_one; omega
      · have h2 := ht_succ k y.2 (by omega)
        have h3 := ht_pos (n := (y.2 : Int)) (by omega)
        have e : ((y.2 + 1 : Nat) : Int) = (y.2 : Int) + 1 := by omega
        rw [e]
        omega
    · have hy0 : y.2 = 0 := by
        have := naf_lt hy
        have e : Int.natAbs 1 = 1 := rfl
        omega
      rw [hy0]
      have h0 : (toT ((0 : Nat) : Int)).height = 0 := ht_zero
      have h1 : (toT ((0 + 1 : Nat) : Int)).height = 1 := ht_one
      omega
theorem ht_sum (a b : Int) : (toT (a + b)).height ≤ max (max (toT a).height (toT b).height) 1 + 1 := by
  have pl : ∀ (n : Int) (m : Nat), (toT n).height ≤ m → 1 ≤ m → ∀ y ∈ naf n 0, (toT (y.2 : Int)).height ≤ m ∧ (toT ((y.2 + 1 : Nat) : Int)).height ≤ m := fun n m hn hm y hy => by
    have h1 := place_mem hy
    refine ⟨by omega, ?_⟩
    by_cases h0 : y.2 = 0
    · rw [h0]; have : (toT ((0 + 1 : Nat) : Int)).height = 1 := ht_one; omega
    · have h2 := ht_succ _ y.2 (Nat.le_refl _)
      have h3 := ht_pos (n := (y.2 : Int)) (by omega)
      have e : ((y.2 + 1 : Nat) : Int) = (y.2 : Int) + 1 := by omega
      rw [e]
      omega
  exact ht_of fun x hx => Nat.succ_le_succ (add_place a b (fun p => (toT (p : Int)).height ≤ max (max (toT a).height (toT b).height) 1) (pl a _ (by omega) (by omega)) (pl b _ (by omega) (by omega)) x hx)
theorem Sz.add {a b : Int} {s h s' h' : Nat} (x : Sz a s h) (y : Sz b s' h') {m : Nat} (h1 : h ≤ m) (h2 : h' ≤ m) (hm : 1 ≤ m) : Sz (a + b) (2 * (s + s')) (m + 1) := by
  have e1 := size_sum a b
  have e2 := ht_sum a b
  have := x.sz; have := y.sz; have := x.ht; have := y.ht
  exact ⟨by omega, by omega⟩
theorem naf_negM {n : Int} {x : Int × Nat} (h : x ∈ naf (-n) 0) : ∃ y ∈ naf n 0, x.2 = y.2 := by
  rw [naf_neg _ n 0 (Nat.le_refl _)] at h
  obtain ⟨y, hy, rfl⟩ := List.mem_map.mp h
  exact ⟨y, hy, rfl⟩
theorem size_negI (n : Int) : (toT (-n)).size = (toT n).size := by
  rw [size_toT, size_toT, naf_neg _ n 0 (Nat.le_refl _)]
  simp only [List.map_map]
  rfl
theorem Sz.neg {n : Int} {s h : Nat} (z : Sz n s h) : Sz (-n) s h := ⟨by rw [size_negI]; exact z.sz, ht_of fun x hx => by
  obtain ⟨y, hy, e⟩ := naf_negM hx
  have := place_mem hy
  have := z.ht
  rw [e]
  omega⟩
theorem SS_two {q : Nat} (h : 1 ≤ q) : 2 ≤ SS q := by
  have h1 := size_FF (q : Int)
  obtain ⟨x, hx⟩ := List.exists_mem_of_ne_nil _ (naf_ne (p := 0) (show (q : Int) ≠ 0 by omega))
  have h2 := SS_pos x.2
  have h3 : SS x.2 ≤ FF (q : Int) 0 := by
    unfold FF
    have : ∀ l : List (Int × Nat), x ∈ l → SS x.2 ≤ (l.map fun x => SS x.2).sum := by
      intro l
      induction l with
      | nil => intro h; cases h
      | cons y l ih =>
        intro hm
        have hn : 0 ≤ (l.map fun x => SS x.2).sum := by
          clear ih hm
          induction l with
          | nil => exact Int.le_refl _
          | cons z l ih => rw [List.map_cons, List.sum_cons]; have := SS_nn z.2; omega
        have := SS_nn y.2
        rw [List.map_cons, List.sum_cons]
        rcases List.mem_cons.mp hm with rfl | hm
        · omega
        · have := ih hm; omega
    exact this _ hx
  show 2 ≤ ((toT (q : Int)).size : Int)
  omega
theorem FF_two_len {p : Nat} (hp : 1 ≤ p) (n : Int) : 2 * ((naf n p).length : Int) ≤ FF n p := by
  unfold FF
  have : ∀ l : List (Int × Nat), (∀ x ∈ l, 1 ≤ x.2) → 2 * (l.length : Int) ≤ (l.map fun x => SS x.2).sum := by
    intro l
    induction l with
    | nil => intro _; exact Int.le_refl _
    | cons x l ih =>
      intro h
      have h1 := ih fun y hy => h y (List.mem_cons_of_mem _ hy)
      have h2 := SS_two (h x List.mem_cons_self)
      rw [List.map_cons, List.sum_cons, List.length_cons]
      omega
  exact this _ fun x hx => Nat.le_trans hp (naf_mem_ge _ n (Nat.le_refl _) p x hx).1
theorem wt_size (n : Int) : 2 * wt n ≤ (toT n).size := by
  have h1 := size_FF n
  unfold wt
  rcases Int.emod_two_eq n with h | h
  · have h2 := FF_two_len (p := 0 + 1) (by decide) (n / 2)
    rw [← FF_even h] at h2
    rw [naf_even h]
    omega
  · have h2 := FF_two_len (p := 0 + 1) (by decide) ((n - (2 - n % 4)) / 2)
    have h3 := FF_odd h 0
    have h4 := SS_pos 0
    rw [naf_odd h, List.length_cons]
    omega
theorem Sz.wt {n : Int} {s h : Nat} (z : Sz n s h) : 2 * wt n ≤ s := Nat.le_trans (wt_size n) z.sz
theorem lenT (n : Int) : (toT n).toL.length = wt n := by rw [toL_toT, List.length_map, List.length_reverse]; rfl
theorem memT {n : Int} {x : Int × T} (hx : x ∈ (toT n).toL) : ∃ y ∈ naf n 0, x.1 = y.1 ∧ x.2 = toT (y.2 : Int) := by
  rw [toL_toT] at hx
  obtain ⟨y, hy, rfl⟩ := List.mem_map.mp hx
  exact ⟨y, List.mem_reverse.mp hy, rfl, rfl⟩
theorem Sz.pl {n : Int} {s h : Nat} (z : Sz n s h) (hs : s ≤ 1400) (hh : h ≤ 43) : PlOk (toT n) := by
  refine ⟨toT_can n, Nat.le_trans z.ht hh, by have := z.sz; omega, by rw [lenT]; have := z.wt; omega, fun x hx => ?_⟩
  obtain ⟨y, hy, _, e⟩ := memT hx
  rw [e, lenT]
  have := wt_size (y.2 : Int)
  have := (place_mem hy).1
  have := z.sz
  omega
theorem Sz.sm {n : Int} {s h : Nat} (z : Sz n s h) (h0 : 0 ≤ n) (hs : s < 1500) (hw : Sk.wt n ≤ 500) (hh : h ≤ 42) : SmOk (toT n) :=
  ⟨toT_can n, by rw [toT_val]; exact h0, Nat.le_trans z.ht hh, by have := z.sz; omega, by rw [lenT]; exact hw⟩
theorem Sz.ok {n : Int} {s h : Nat} (z : Sz n s h) (hs : s < 90000) : (toT n).ok := ⟨toT_can n, nn_of_can (toT_can n) (by have := z.sz; omega), by rw [lenT]; have := z.wt; omega⟩
theorem Sz.szk {n : Int} {s h : Nat} (z : Sz n s h) (hs : s < 100000) : (toT n).szk := szk_of (by have := z.sz; omega)
end Sk

set_option Elab.async false
set_option linter.all false
set_option maxRecDepth 100000
set_option maxHeartbeats 1000000
namespace Sk
open PySem L2 Evl
/-! ### products -/
def prodP (l m : List (Int × Nat)) : List (Int × Nat) := (l.map fun x => m.map fun y => (x.1 * y.1, x.2 + y.2)).flatten
theorem sumP_mulr (s : Int) (e : Nat) : ∀ m : List (Int × Nat), sumP (m.map fun y => (s * y.1, e + y.2)) = s * 2 ^ e * sumP m
  | [] => (Int.mul_zero _).symm
  | (t, f) :: m => by
    show s * t * 2 ^ (e + f) + sumP (m.map fun y => (s * y.1, e + y.2)) = s * 2 ^ e * (t * 2 ^ f + sumP m)
    rw [sumP_mulr s e m, Int.mul_add, Int.pow_add]
    congr 1
    simp only [Int.mul_assoc, Int.mul_left_comm, Int.mul_comm]
theorem sumP_prod (m : List (Int × Nat)) : ∀ l : List (Int × Nat), sumP (prodP l m) = sumP l * sumP m
  | [] => (Int.zero_mul _).symm
  | (s, e) :: l => by
    show sumP ((m.map fun y => (s * y.1, e + y.2)) ++ prodP l m) = (s * 2 ^ e + sumP l) * sumP m
    rw [sumP_append, sumP_mulr, sumP_prod m l, Int.add_mul]
theorem prodP_len (m : List (Int × Nat)) : ∀ l : List (Int × Nat), (prodP l m).length = l.length * m.length
  | [] => (Nat.zero_mul _).symm
  | x :: l => by
    show ((m.map fun y => (x.1 * y.1, x.2 + y.2)) ++ prodP l m).length = _
    rw [List.length_append, List.length_map, prodP_len m l, List.length_cons, Nat.succ_mul, Nat.add_comm]
theorem prodP_mem {l m : List (Int × Nat)} {z : Int × Nat} (h : z ∈ prodP l m) : ∃ x ∈ l, ∃ y ∈ m, z = (x.1 * y.1, x.2 + y.2) := by
  obtain ⟨r, hr, hz⟩ := List.mem_flatten.mp h
  obtain ⟨x, hx, rfl⟩ := List.mem_map.mp hr
  obtain ⟨y, hy, rfl⟩ := List.mem_map.mp hz
  exact ⟨x, hx, y, hy, rfl⟩
/-- the places of a sum of powers: at most so many above one of them -/
theorem sum_place : ∀ (l : List (Int × Nat)), (∀ x ∈ l, x.1 = 1 ∨ x.1 = -1) → ∀ x ∈ naf (sumP l) 0, ∃ y ∈ l, ∃ j, j ≤ l.length ∧ x.2 = y.2 + j
  | [], _, x, hx => by rw [show sumP [] = 0 from rfl, naf_zero] at hx; cases hx
  | (s, e) :: l, h, x, hx => by
    have ih := sum_place l fun y hy => h y (List.mem_cons_of_mem _ hy)
    have hs := h (s, e) List.mem_cons_self
    have hsp : naf (s * 2 ^ e) 0 = [(s, e)] := by
      rw [Int.mul_comm, naf_shift, Nat.zero_add]
      rcases hs with q | q <;> (have q' : s = _ := q; subst q')
      · rw [naf_odd (by decide), show ((1 : Int) - (2 - 1 % 4)) / 2 = 0 by decide, naf_zero]; rfl
      · rw [naf_odd (by decide), show ((-1 : Int) - (2 - (-1) % 4)) / 2 = 0 by decide, naf_zero]; rfl
    refine add_place (s * 2 ^ e) (sumP l) (fun p => ∃ y ∈ (s, e) :: l, ∃ j, j ≤ l.length + 1 ∧ p = y.2 + j) (fun z hz => ?_) (fun z hz => ?_) x hx
    · rw [hsp, List.mem_singleton] at hz
      subst hz
      exact ⟨⟨(s, e), List.mem_cons_self, 0, by omega, rfl⟩, ⟨(s, e), List.mem_cons_self, 1, by omega, rfl⟩⟩
    · obtain ⟨y, hy, j, hj, e⟩ := ih z hz
      exact ⟨⟨y, List.mem_cons_of_mem _ hy, j, by omega, e⟩, ⟨y, List.mem_cons_of_mem _ hy, j + 1, by omega, by omega⟩⟩
theorem wt_sumP (l : List (Int × Nat)) (h : ∀ x ∈ l, x.1 = 1 ∨ x.1 = -1) : wt (sumP l) ≤ l.length := by
  have := wt_add_list l 0 h
  rw [wt_zero, Int.zero_add] at this
  omega
theorem sumP_naf (n : Int) : sumP (naf n 0) = n := by rw [naf_sum _ n (Nat.le_refl _) 0, Int.pow_zero, Int.mul_one]
theorem sz_nat {j : Nat} (h : j ≤ 400) : Sz (j : Int) 39 6 := ⟨sz2810 j (by omega), height_toT 6 _ (big_cb (big_of (by omega)))⟩
theorem size_sumP {n : Int} {m s : Nat} (hw : wt n ≤ m) (hp : ∀ x ∈ naf n 0, (toT (x.2 : Int)).size ≤ s) : (toT n).size ≤ 1 + s * m := by
  rw [size_toT]
  have h1 := sum_all ((naf n 0).map (·.2)) (fun p : Nat => (toT (p : Int)).size) s fun p hp' => by
    obtain ⟨x, hx, rfl⟩ := List.mem_map.mp hp'
    exact hp x hx
  rw [List.length_map] at h1
  have h2 : s * (naf n 0).length ≤ s * m := Nat.mul_le_mul (Nat.le_refl _) hw
  omega
/-- a sum of powers whose exponents are of such a size -/
theorem sz_sumP {l : List (Int × Nat)} {s h : Nat} (hs : ∀ x ∈ l, x.1 = 1 ∨ x.1 = -1) (hl : l.length ≤ 400) (he : ∀ x ∈ l, Sz (x.2 : Int) s h) (hh : 6 ≤ h) : Sz (sumP l) (1 + (2 * (s + 39)) * l.length) (h + 2) := by
  have key : ∀ x ∈ naf (sumP l) 0, Sz (x.2 : Int) (2 * (s + 39)) (h + 1) := fun x hx => by
    obtain ⟨y, hy, j, hj, e⟩ := sum_place l hs x hx
    rw [e, Int.natCast_add]
    exact (he y hy).add (sz_nat (by omega)) (Nat.le_refl _) hh (by omega)
  exact ⟨size_sumP (wt_sumP l hs) fun x hx => (key x hx).sz, ht_of fun x hx => Nat.succ_le_succ (key x hx).ht⟩
theorem pm_mul {s t : Int} (h : s = 1 ∨ s = -1) (h' : t = 1 ∨ t = -1) : s * t = 1 ∨ s * t = -1 := by
  rcases h with rfl | rfl <;> rcases h' with rfl | rfl <;> decide
theorem sz_prod {V U : Int} (hV : Sz V 301 41) (hU : Sz U 301 41) (hl : wt V * wt U ≤ 400) : Sz (V * U) 1000000 50 := by
  have e : sumP (prodP (naf V 0) (naf U 0)) = V * U := by rw [sumP_prod, sumP_naf, sumP_naf]
  have hlen : (prodP (naf V 0) (naf U 0)).length = wt V * wt U := prodP_len _ _
  have := sz_sumP (l := prodP (naf V 0) (naf U 0)) (s := 1200) (h := 41) (fun z hz => by
    obtain ⟨x, hx, y, hy, rfl⟩ := prodP_mem hz
    exact pm_mul (naf_sign hx) (naf_sign hy)) (by omega) (fun z hz => by
    obtain ⟨x, hx, y, hy, rfl⟩ := prodP_mem hz
    show Sz ((x.2 + y.2 : Nat) : Int) 1200 41
    rw [Int.natCast_add]
    exact ((hV.place (s := 300) (h := 40) hx).add (hU.place (s := 300) (h := 40) hy) (Nat.le_refl 40) (Nat.le_refl 40) (by decide)).mono (by decide) (by decide)) (by decide)
  rw [e, hlen] at this
  refine this.mono ?_ (by decide)
  have h2 : 2 * (1200 + 39) * (wt V * wt U) ≤ 2478 * 400 := Nat.mul_le_mul (by decide) hl
  omega
/-! ### the operations on numbers of moderate size -/
section
variable {K : PySem.W.Frag} {CB CL : Addr} {x y : V} {H : Hp} {a b : Int}
theorem pAdd_ft (hx : NumV K H x (toT a)) (hy : NumV K H y (toT b)) (ha : Sz a 600 42) (hb : Sz b 600 42) : pAdd K CL x y H (fun v H' => (toT (a + b)).fits ∧ NumV K H' v (toT (a + b))) fun C => C = CL ∧ ¬ (toT (a + b)).fits :=
  ⟨toT a, toT b, hx, hy, ha.pl (by decide) (by decide), hb.pl (by decide) (by decide), by rw [toT_val, toT_val]; exact (ha.add hb (Nat.le_refl _) (Nat.le_refl _) (by decide)).szk (by decide), by rw [toT_val, toT_val]; exact fun hf v H' g => ⟨hf, g⟩, by rw [toT_val, toT_val]; exact fun hf => ⟨rfl, hf⟩⟩
theorem pSub_ft (hx : NumV K H x (toT a)) (hy : NumV K H y (toT b)) (ha : Sz a 600 42) (hb : Sz b 600 42) : pSub K CL x y H (fun v H' => (toT (a - b)).fits ∧ NumV K H' v (toT (a - b))) fun C => C = CL ∧ ¬ (toT (a - b)).fits :=
  ⟨toT a, toT b, hx, hy, ha.pl (by decide) (by decide), hb.pl (by decide) (by decide), by rw [toT_val, toT_val, Int.sub_eq_add_neg]; exact (ha.add hb.neg (Nat.le_refl _) (Nat.le_refl _) (by decide)).szk (by decide), by rw [toT_val, toT_val]; exact fun hf v H' g => ⟨hf, g⟩, by rw [toT_val, toT_val]; exact fun hf => ⟨rfl, hf⟩⟩
theorem sub_ok (ha : Sz a 301 41) : ∀ x ∈ (toT a).toL, PlOk x.2 := fun x hx => by
  obtain ⟨y, hy, _, e⟩ := memT hx
  rw [e]
  exact (ha.place (s := 300) (h := 40) hy).pl (by decide) (by decide)
theorem pMul_ft (hx : NumV K H x (toT a)) (hy : NumV K H y (toT b)) (ha : Sz a 301 41) (hb : Sz b 301 41) : pMul K CL x y H (fun v H' => (wt a * wt b ≤ 400 ∧ (toT (a * b)).fits) ∧ NumV K H' v (toT (a * b))) fun C => C = CL ∧ ¬ (wt a * wt b ≤ 400 ∧ (toT (a * b)).fits) := by
  have wa := ha.wt
  have wb := hb.wt
  refine ⟨toT a, toT b, hx, hy, toT_can _, toT_can _, by rw [lenT]; omega, by rw [lenT]; omega, sub_ok ha, sub_ok hb, fun h => ⟨rfl, fun g => by rw [lenT, lenT] at h; omega⟩, fun h => ?_⟩
  rw [lenT, lenT] at h
  have hz := sz_prod ha hb h
  rw [toT_val, toT_val]
  refine ⟨fun z hz w hw => ?_, ⟨by have := hz.sz; omega, by have := hz.ht; omega⟩, fun hf v H' g => ⟨⟨h, hf⟩, g⟩, fun hf => ⟨rfl, fun g => hf g.2⟩⟩
  obtain ⟨u, hu, _, e⟩ := memT hz
  obtain ⟨u', hu', _, e'⟩ := memT hw
  rw [e, e', toT_val, toT_val]
  have z1 := ha.place (s := 300) (h := 40) hu
  have z2 := hb.place (s := 300) (h := 40) hu'
  have w1 := z1.wt
  have w2 := z2.wt
  have w3 := wt_add (u'.2 : Int) (u.2 : Int)
  exact (z2.add z1 (Nat.le_refl _) (Nat.le_refl _) (by decide)).sm (by omega) (by decide) (by omega) (by decide)
/-- the number moved -/
theorem shR_mem {V p W : Int} (h : ShR V p W) : ∀ x ∈ naf W 0, ∃ y ∈ naf V 0, (x.2 : Int) = y.2 + p := by
  rcases h with ⟨rfl, rfl⟩ | ⟨c, x, rfl, hx, h0, rfl⟩
  · intro x hx; rw [naf_zero] at hx; cases hx
  · intro z hz
    rw [naf_shift] at hz
    obtain ⟨y, hy, _, e⟩ := naf_offs (a := 0 + c) hz
    exact ⟨y, by rw [naf_shift]; exact hy, by omega⟩
theorem shR_wt {V p W : Int} (h : ShR V p W) : wt W = wt V := by
  rcases h with ⟨rfl, rfl⟩ | ⟨c, x, rfl, hx, h0, rfl⟩
  · rfl
  · rw [wt_mul_pow, wt_mul_pow]
theorem sz_shift {V p W : Int} (h : ShR V p W) (hV : Sz V 301 41) (hp : Sz p 301 41) : Sz W 200000 43 := by
  have key : ∀ x ∈ naf W 0, Sz (x.2 : Int) 1204 42 := fun x hx => by
    obtain ⟨y, hy, e⟩ := shR_mem h x hx
    rw [e]
    exact ((hV.place (s := 300) (h := 40) hy).add hp (show 40 ≤ 41 by decide) (Nat.le_refl _) (by decide)).mono (by decide) (by decide)
  have w := hV.wt
  have := size_sumP (n := W) (m := 150) (s := 1204) (by rw [shR_wt h]; omega) fun x hx => (key x hx).sz
  exact ⟨by omega, ht_of fun x hx => Nat.succ_le_succ (key x hx).ht⟩
theorem pShift_ft {R : VP} {W : WP} (hx : NumV K H x (toT a)) (hy : NumV K H y (toT b)) (ha : Sz a 301 41) (hb : Sz b 301 41)
    (hR : ∀ U, ShR a b U → (toT U).fits → ∀ v H', NumV K H' v (toT U) → R v H') (hB : ¬ Wh a b → W CB) (hL : ∀ U, ShR a b U → ¬ (toT U).fits → W CL) : pShift K CB CL x y H R W := by
  have wa := ha.wt
  refine ⟨toT a, toT b, hx, hy, by rw [lenT]; omega, sub_ok ha, hb.pl (by decide) (by decide), fun h0 v H' g => ?_, fun l s e hs => ?_⟩
  · have hV : a = 0 := by
      apply Classical.byContradiction
      intro hne
      obtain ⟨a, x, rfl, hx, _⟩ := odd_part5 _ a (Nat.le_refl _) hne
      have hl := last_term (a := a) hx
      rw [h0] at hl
      cases hl
    subst hV
    refine hR 0 (.inl ⟨rfl, rfl⟩) ?_ v H' g
    rw [toT_eq, naf_zero]
    exact ⟨by decide, by decide⟩
  · obtain ⟨c, x, rfl, hx', rfl⟩ := shift_last hs
    rw [toT_val, toT_val]
    refine ⟨fun hneg => hB fun hw => by have := (wh_iff hx').mp hw; omega, fun hge => ?_⟩
    rw [shL_int x c b hge]
    have hsh : ShR (2 ^ c * x) b (2 ^ ((c : Int) + b).toNat * x) := .inr ⟨c, x, rfl, hx', hge, rfl⟩
    have hz := sz_shift hsh ha hb
    exact ⟨⟨by have := hz.sz; omega, by have := hz.ht; omega⟩, hR _ hsh, hL _ hsh⟩
end
end Sk

set_option Elab.async false
set_option linter.all false
set_option maxRecDepth 100000
set_option maxHeartbeats 1000000
namespace Sk
open PySem L2 Evl
/-- a test that gives a truth value with P -/
def ETR (t : TT) (σ : L2.St) (H : Hp) (P : Bool → Prop) : Prop := ∀ H1, Ex H H1 → ∀ Q : Bool → Hp → Prop, (∀ b H2, Ex H1 H2 → P b → Q b H2) → t σ H1 Q
/-- an expression that gives a truth value with P -/
def BlR (P : Bool → Prop) : VP := fun v _ => ∃ b, v = .bl b ∧ P b
section
variable {K : PySem.W.Frag} {σ : L2.St} {H : Hp} {te ta tb : TE} {D : Ends} {t u : TT} {tu tv tz : TS} {P Q P' : Bool → Prop} {I J : Int → Prop}
theorem blR : Mono (BlR P) := fun _ _ _ _ h => h
theorem etr_ev {b : Bool} (h : EvT t σ H b) (hp : P b) : ETR t σ H P := fun H1 e Q q => h H1 e _ fun H2 e2 => q b H2 e2 hp
theorem etr_imp (h : ETR t σ H P) (k : ∀ b, P b → P' b) : ETR t σ H P' := fun H1 e Q q => h H1 e _ fun b H2 e2 p => q b H2 e2 (k b p)
theorem etr_test (h : ER te σ H (BlR P)) : ETR (tTest te) σ H P := fun H1 e Q q => h H1 e _ fun v H2 e2 ⟨b, hv, p⟩ => ⟨b, hv, q b H2 e2 p⟩
theorem etr_B (h : ER te σ H (BlR P)) : ETR (tB te) σ H P := fun H1 e Q q => h H1 e _ fun v H2 e2 ⟨b, hv, p⟩ => ⟨b, hv, q b H2 e2 p⟩
theorem etr_not (h : ETR t σ H P) : ETR (tNot t) σ H (fun b => P (!b)) := fun H1 e Q q => h H1 e _ fun b H2 e2 p => q (!b) H2 e2 (by show P (!!b); rw [Bool.not_not]; exact p)
theorem etr_and (h1 : ETR t σ H P) (h2 : P true → ETR u σ H Q) : ETR (tAnd t u) σ H (fun b => (b = false ∧ P false) ∨ (P true ∧ Q b)) := fun H1 e R q => h1 H1 e _ fun b H2 e2 p => by
  cases b with
  | true => exact h2 p H2 (e.trans e2) _ fun c H3 e3 r => q c H3 (e2.trans e3) (.inr ⟨p, r⟩)
  | false => exact q false H2 e2 (.inl ⟨rfl, p⟩)
theorem etr_or (h1 : ETR t σ H P) (h2 : P false → ETR u σ H Q) : ETR (tOr t u) σ H (fun b => (b = true ∧ P true) ∨ (P false ∧ Q b)) := fun H1 e R q => h1 H1 e _ fun b H2 e2 p => by
  cases b with
  | true => exact q true H2 e2 (.inl ⟨rfl, p⟩)
  | false => exact h2 p H2 (e.trans e2) _ fun c H3 e3 r => q c H3 (e2.trans e3) (.inr ⟨p, r⟩)
theorem s_ifE (h : ETR t σ H P) (h1 : P true → ∀ H1, Ex H H1 → tu D σ H1) (h2 : P false → ∀ H1, Ex H H1 → tv D σ H1) : tIfS t tu tv D σ H := h H (Ex.refl H) _ fun b H1 e p => by
  cases b with
  | true => exact h1 p H1 e
  | false => exact h2 p H1 e
theorem q_whenE (h : ETR t σ H P) (h1 : P true → ∀ H1, Ex H H1 → tu { D with nx := tz D } σ H1) (h2 : P false → ∀ H1, Ex H H1 → tz D σ H1) : tSeq (tIfS t tu tNext) tz D σ H := s_ifE (D := { D with nx := tz D }) h h1 h2
theorem s_whenE (h : ETR t σ H P) (h1 : P true → ∀ H1, Ex H H1 → tu D σ H1) (h2 : P false → ∀ H1, Ex H H1 → D.nx σ H1) : tIfS t tu tNext D σ H := s_ifE h h1 h2
theorem q_ifE (h : ETR t σ H P) (h1 : P true → ∀ H1, Ex H H1 → tu { D with nx := tz D } σ H1) (h2 : P false → ∀ H1, Ex H H1 → tv { D with nx := tz D } σ H1) : tSeq (tIfS t tu tv) tz D σ H := s_ifE (D := { D with nx := tz D }) h h1 h2
/-- an if whose ends meet at J -/
theorem q_whenEJ (J : L2.St → Hp → Prop) (h : ETR t σ H P) (k : ∀ σ' H', J σ' H' → tz D σ' H') (h1 : P true → ∀ H1, Ex H H1 → (∀ σ' H', J σ' H' → tz D σ' H') → tu { D with nx := tz D } σ H1) (h2 : P false → ∀ H1, Ex H H1 → J σ H1) : tSeq (tIfS t tu tNext) tz D σ H :=
  q_whenE h (fun hb H1 e => h1 hb H1 e k) fun hb H1 e => k _ _ (h2 hb H1 e)
theorem q_whenJ {b : Bool} (J : L2.St → Hp → Prop) (h : EvT t σ H b) (k : ∀ σ' H', J σ' H' → tz D σ' H') (h1 : b = true → ∀ H1, Ex H H1 → (∀ σ' H', J σ' H' → tz D σ' H') → tu { D with nx := tz D } σ H1) (h2 : b = false → ∀ H1, Ex H H1 → J σ H1) : tSeq (tIfS t tu tNext) tz D σ H :=
  q_when h (fun hb H1 e => h1 hb H1 e k) fun hb H1 e => k _ _ (h2 hb H1 e)
/-- an operation on ints that are known by their properties -/
theorem er_op2 {r : R2} {f : Int → Int → V} (ha : ER ta σ H (IntR I)) (hb : ER tb σ H (IntR J)) (h : ∀ i j H1, Ex H H1 → I i → J j → Ev (tOp r (tC (.int i)) (tC (.int j))) σ H1 (f i j)) : ER (tOp r ta tb) σ H (fun v _ => ∃ i j, I i ∧ J j ∧ v = f i j) := fun H1 e Q q =>
  ha H1 e _ fun v H2 e2 ⟨i, hv, hi⟩ => hb H2 (e.trans e2) _ fun w H3 e3 ⟨j, hw, hj⟩ => by
    subst hv hw
    exact h i j H3 (e.trans (e2.trans e3)) hi hj H3 (Ex.refl _) _ fun H4 e4 => q _ H4 (e2.trans (e3.trans e4)) ⟨i, j, hi, hj, rfl⟩
theorem er_eqI (ha : ER ta σ H (IntR I)) (hb : ER tb σ H (IntR J)) : ER (tOp rEq ta tb) σ H (BlR fun b => ∃ i j, I i ∧ J j ∧ b = decide (i = j)) :=
  (er_op2 (f := fun i j => .bl (decide (i = j))) ha hb fun i j H1 e _ _ => ev_is (ev_eq ev_c ev_c rfl) (by simp)).imp fun v H2 e ⟨i, j, h1, h2, h3⟩ => ⟨_, h3, i, j, h1, h2, rfl⟩
theorem er_ltI (ha : ER ta σ H (IntR I)) (hb : ER tb σ H (IntR J)) : ER (tOp xLt ta tb) σ H (BlR fun b => ∃ i j, I i ∧ J j ∧ b = decide (i < j)) :=
  (er_op2 (f := fun i j => .bl (decide (i < j))) ha hb fun i j H1 e _ _ => ev_lt ev_c ev_c).imp fun v H2 e ⟨i, j, h1, h2, h3⟩ => ⟨_, h3, i, j, h1, h2, rfl⟩
theorem er_gtI (ha : ER ta σ H (IntR I)) (hb : ER tb σ H (IntR J)) : ER (tOp xGt ta tb) σ H (BlR fun b => ∃ i j, I i ∧ J j ∧ b = decide (j < i)) :=
  (er_op2 (f := fun i j => .bl (decide (j < i))) ha hb fun i j H1 e _ _ => ev_gt ev_c ev_c).imp fun v H2 e ⟨i, j, h1, h2, h3⟩ => ⟨_, h3, i, j, h1, h2, rfl⟩
theorem er_leI (ha : ER ta σ H (IntR I)) (hb : ER tb σ H (IntR J)) : ER (tOp xLe ta tb) σ H (BlR fun b => ∃ i j, I i ∧ J j ∧ b = decide (i ≤ j)) :=
  (er_op2 (f := fun i j => .bl (decide (i ≤ j))) ha hb fun i j H1 e _ _ => ev_le ev_c ev_c).imp fun v H2 e ⟨i, j, h1, h2, h3⟩ => ⟨_, h3, i, j, h1, h2, rfl⟩
/-- a test of two ints of which nothing is asked -/
theorem etr_eqAny (ha : ER ta σ H (IntR I)) (hb : ER tb σ H (IntR J)) : ETR (tTest (tOp rEq ta tb)) σ H (fun _ => True) := etr_imp (etr_test (er_eqI ha hb)) fun _ _ => trivial
theorem etr_ltAny (ha : ER ta σ H (IntR I)) (hb : ER tb σ H (IntR J)) : ETR (tTest (tOp xLt ta tb)) σ H (fun _ => True) := etr_imp (etr_test (er_ltI ha hb)) fun _ _ => trivial
theorem etr_gtAny (ha : ER ta σ H (IntR I)) (hb : ER tb σ H (IntR J)) : ETR (tTest (tOp xGt ta tb)) σ H (fun _ => True) := etr_imp (etr_test (er_gtI ha hb)) fun _ _ => trivial
theorem intR_any : (IntR I) v H → IntR (fun _ => True) v H := fun ⟨i, h, _⟩ => ⟨i, h, trivial⟩
end
end Sk

set_option Elab.async false
set_option linter.all false
set_option maxRecDepth 100000
set_option maxHeartbeats 1000000
namespace Sk
open PySem L2 Evl
/-- what is wished of an error of class C, at H and behind -/
def Wsh (K : PySem.W.Frag) (ES : L2.St → XK) (σ : L2.St) (H : Hp) (C : Addr) : Prop := ∀ H2, Ex H H2 → ∀ d, ErrAt K C d H2 → ES σ (.ref C) (some d) H2
section
variable {K : PySem.W.Frag} {σ : L2.St} {H H' : Hp} {te tf tg : TE} {R R1 R2 R3 : VP} {ES : L2.St → XK} {WS : WP} {C : Addr}
theorem Wsh.ex (h : Wsh K ES σ H C) (e : Ex H H') : Wsh K ES σ H' C := fun H2 e2 => h H2 (e.trans e2)
/-- calls that may raise where the error is wished for -/
theorem er_xs1 {P : V → Hp → VP → WP → Prop} (h : ER te σ H R1) (m : Mono R1) (hE : ∀ C, WS C → Wsh K ES σ H C) (k : ∀ v H1, Ex H H1 → R1 v H1 → P v H1 R WS) : ER (tCallS (spX1 K P) ES (tCons te tNil)) σ H R := fun H0 e0 Q q =>
  ea_one h m H0 e0 _ fun vs H1 e ⟨v, hv, r⟩ => by
    subst hv
    exact ⟨v, R, WS, rfl, k v H1 (e0.trans e) r, fun w H2 e2 hw => q w H2 (e.trans e2) hw, fun C H2 e2 hC d hd => hE C hC H2 (e0.trans (e.trans e2)) d hd⟩
theorem er_xs2 {P : V → V → Hp → VP → WP → Prop} (h : ER te σ H R1) (m : Mono R1) (h' : ER tf σ H R2) (m' : Mono R2) (hE : ∀ C, WS C → Wsh K ES σ H C) (k : ∀ v v' H1, Ex H H1 → R1 v H1 → R2 v' H1 → P v v' H1 R WS) : ER (tCallS (spX2 K P) ES (tCons te (tCons tf tNil))) σ H R := fun H0 e0 Q q =>
  ea_two h m h' m' H0 e0 _ fun vs H1 e ⟨v, v', hv, r, r'⟩ => by
    subst hv
    exact ⟨v, v', R, WS, rfl, k v v' H1 (e0.trans e) r r', fun w H2 e2 hw => q w H2 (e.trans e2) hw, fun C H2 e2 hC d hd => hE C hC H2 (e0.trans (e.trans e2)) d hd⟩
theorem er_xs3 {P : V → V → V → Hp → VP → WP → Prop} (h : ER te σ H R1) (m : Mono R1) (h' : ER tf σ H R2) (m' : Mono R2) (h'' : ER tg σ H R3) (m'' : Mono R3) (hE : ∀ C, WS C → Wsh K ES σ H C) (k : ∀ v v' v'' H1, Ex H H1 → R1 v H1 → R2 v' H1 → R3 v'' H1 → P v v' v'' H1 R WS) : ER (tCallS (spX3 K P) ES (tCons te (tCons tf (tCons tg tNil)))) σ H R := fun H0 e0 Q q =>
  ea_three h m h' m' h'' m'' H0 e0 _ fun vs H1 e ⟨v, v', v'', hv, r, r', r''⟩ => by
    subst hv
    exact ⟨v, v', v'', R, WS, rfl, k v v' v'' H1 (e0.trans e) r r' r'', fun w H2 e2 hw => q w H2 (e.trans e2) hw, fun C H2 e2 hC d hd => hE C hC H2 (e0.trans (e.trans e2)) d hd⟩
/-- .. and where it is wished for by a fixed E -/
theorem er_xc1 {P : V → Hp → VP → WP → Prop} {E : XK} (h : ER te σ H R1) (m : Mono R1) (hE : ∀ C, WS C → Wsh K (fun _ => E) σ H C) (k : ∀ v H1, Ex H H1 → R1 v H1 → P v H1 R WS) : ER (tCall (spX1 K P) [] E (tCons te tNil)) σ H R := fun H0 e0 Q q =>
  ea_one h m H0 e0 _ fun vs H1 e ⟨v, hv, r⟩ => by
    subst hv
    exact ⟨v, R, WS, rfl, k v H1 (e0.trans e) r, fun w H2 e2 hw => q w H2 (e.trans e2) hw, fun C H2 e2 hC d hd => hE C hC H2 (e0.trans (e.trans e2)) d hd⟩
theorem er_xc2 {P : V → V → Hp → VP → WP → Prop} {E : XK} (h : ER te σ H R1) (m : Mono R1) (h' : ER tf σ H R2) (m' : Mono R2) (hE : ∀ C, WS C → Wsh K (fun _ => E) σ H C) (k : ∀ v v' H1, Ex H H1 → R1 v H1 → R2 v' H1 → P v v' H1 R WS) : ER (tCall (spX2 K P) [] E (tCons te (tCons tf tNil))) σ H R := fun H0 e0 Q q =>
  ea_two h m h' m' H0 e0 _ fun vs H1 e ⟨v, v', hv, r, r'⟩ => by
    subst hv
    exact ⟨v, v', R, WS, rfl, k v v' H1 (e0.trans e) r r', fun w H2 e2 hw => q w H2 (e.trans e2) hw, fun C H2 e2 hC d hd => hE C hC H2 (e0.trans (e.trans e2)) d hd⟩
/-! ### numbers -/
variable {CL CN CB : Addr} {a b : Int}
/-- a number that stands for n -/
def NumR (K : PySem.W.Frag) (n : Int) : VP := fun v H => NumV K H v (toT n)
theorem numR (n : Int) : Mono (NumR K n) := numT.mono
/-- an allowed one -/
def FtR (K : PySem.W.Frag) (n : Int) : VP := fun v H => (toT n).fits ∧ NumV K H v (toT n)
theorem ftR (n : Int) : Mono (FtR K n) := fun v H H' e h => ⟨h.1, h.2.ex e⟩
theorem er_addS (h : ER te σ H (NumR K a)) (h' : ER tf σ H (NumR K b)) (ha : Sz a 600 42) (hb : Sz b 600 42) (hE : ¬ (toT (a + b)).fits → Wsh K ES σ H CL) : ER (tCallS (sp_add K CL) ES (tCons te (tCons tf tNil))) σ H (FtR K (a + b)) :=
  er_xs2 (WS := fun C => C = CL ∧ ¬ (toT (a + b)).fits) h (numR a) h' (numR b) (fun C hC => by rw [hC.1]; exact hE hC.2) fun v w H1 e1 g1 g2 => pAdd_ft g1 g2 ha hb
theorem er_subS (h : ER te σ H (NumR K a)) (h' : ER tf σ H (NumR K b)) (ha : Sz a 600 42) (hb : Sz b 600 42) (hE : ¬ (toT (a - b)).fits → Wsh K ES σ H CL) : ER (tCallS (sp_subtract K CL) ES (tCons te (tCons tf tNil))) σ H (FtR K (a - b)) :=
  er_xs2 (WS := fun C => C = CL ∧ ¬ (toT (a - b)).fits) h (numR a) h' (numR b) (fun C hC => by rw [hC.1]; exact hE hC.2) fun v w H1 e1 g1 g2 => pSub_ft g1 g2 ha hb
theorem er_mulS (h : ER te σ H (NumR K a)) (h' : ER tf σ H (NumR K b)) (ha : Sz a 301 41) (hb : Sz b 301 41) (hE : ¬ (wt a * wt b ≤ 400 ∧ (toT (a * b)).fits) → Wsh K ES σ H CL) : ER (tCallS (sp_multiply K CL) ES (tCons te (tCons tf tNil))) σ H (FtR K (a * b)) :=
  (er_xs2 (WS := fun C => C = CL ∧ ¬ (wt a * wt b ≤ 400 ∧ (toT (a * b)).fits)) (R := fun v H' => (wt a * wt b ≤ 400 ∧ (toT (a * b)).fits) ∧ NumV K H' v (toT (a * b))) h (numR a) h' (numR b) (fun C hC => by rw [hC.1]; exact hE hC.2) fun v w H1 e1 g1 g2 => pMul_ft g1 g2 ha hb).imp fun v H1 e1 ⟨h1, h2⟩ => ⟨h1.2, h2⟩
theorem er_addE {E : XK} (h : ER te σ H (NumR K a)) (h' : ER tf σ H (NumR K b)) (ha : Sz a 600 42) (hb : Sz b 600 42) (hE : ¬ (toT (a + b)).fits → Wsh K (fun _ => E) σ H CL) : ER (tCall (sp_add K CL) [] E (tCons te (tCons tf tNil))) σ H (FtR K (a + b)) :=
  er_xc2 (WS := fun C => C = CL ∧ ¬ (toT (a + b)).fits) h (numR a) h' (numR b) (fun C hC => by rw [hC.1]; exact hE hC.2) fun v w H1 e1 g1 g2 => pAdd_ft g1 g2 ha hb
theorem er_subE {E : XK} (h : ER te σ H (NumR K a)) (h' : ER tf σ H (NumR K b)) (ha : Sz a 600 42) (hb : Sz b 600 42) (hE : ¬ (toT (a - b)).fits → Wsh K (fun _ => E) σ H CL) : ER (tCall (sp_subtract K CL) [] E (tCons te (tCons tf tNil))) σ H (FtR K (a - b)) :=
  er_xc2 (WS := fun C => C = CL ∧ ¬ (toT (a - b)).fits) h (numR a) h' (numR b) (fun C hC => by rw [hC.1]; exact hE hC.2) fun v w H1 e1 g1 g2 => pSub_ft g1 g2 ha hb
theorem er_mulE {E : XK} (h : ER te σ H (NumR K a)) (h' : ER tf σ H (NumR K b)) (ha : Sz a 301 41) (hb : Sz b 301 41) (hE : ¬ (wt a * wt b ≤ 400 ∧ (toT (a * b)).fits) → Wsh K (fun _ => E) σ H CL) : ER (tCall (sp_multiply K CL) [] E (tCons te (tCons tf tNil))) σ H (FtR K (a * b)) :=
  (er_xc2 (WS := fun C => C = CL ∧ ¬ (wt a * wt b ≤ 400 ∧ (toT (a * b)).fits)) (R := fun v H' => (wt a * wt b ≤ 400 ∧ (toT (a * b)).fits) ∧ NumV K H' v (toT (a * b))) h (numR a) h' (numR b) (fun C hC => by rw [hC.1]; exact hE hC.2) fun v w H1 e1 g1 g2 => pMul_ft g1 g2 ha hb).imp fun v H1 e1 ⟨h1, h2⟩ => ⟨h1.2, h2⟩
theorem ft_num {n : Int} (h : ER te σ H (FtR K n)) : ER te σ H (NumR K n) := h.imp fun v H1 e1 g => g.2
theorem ev_remS {m : Int} (h : ER te σ H (NumR K a)) (hm : Ev tf σ H (.int m)) (ha : Sz a 600 43) (h1 : 1 ≤ m ∧ m ≤ 10000) : Ev (tCallS (sp_remainder K CN) ES (tCons te (tCons tf tNil))) σ H (.int (a % m)) :=
  ev_er (er_xs2 (P := pRem K CN) (WS := fun _ => False) h (numR a) (er_is hm) (R2 := fun v _ => v = .int m) monoC (fun C hC => hC.elim) fun v w H1 e1 g1 g2 => ⟨toT a, m, g1, g2, ha.ok (by decide), by have := ha.ht; omega, fun _ _ => by rw [toT_val], fun h => absurd h1 h⟩)
theorem ev_remN {m : Int} (h : ER te σ H (NumR K a)) (hm : Ev tf σ H (.int m)) (ha : Sz a 600 43) (h1 : 1 ≤ m ∧ m ≤ 10000) : Ev (tCall (sp_remainder K CN) [] E0 (tCons te (tCons tf tNil))) σ H (.int (a % m)) :=
  ev_er (er_xc2 (P := pRem K CN) (WS := fun _ => False) h (numR a) (er_is hm) (R2 := fun v _ => v = .int m) monoC (fun C hC => hC.elim) fun v w H1 e1 g1 g2 => ⟨toT a, m, g1, g2, ha.ok (by decide), by have := ha.ht; omega, fun _ _ => by rw [toT_val], fun h => absurd h1 h⟩)
theorem ev_remFS {m : Int} (h : ER te σ H (FtR K a)) (hm : Ev tf σ H (.int m)) (h1 : 1 ≤ m ∧ m ≤ 10000) : Ev (tCallS (sp_remainder K CN) ES (tCons te (tCons tf tNil))) σ H (.int (a % m)) :=
  ev_er (er_xs2 (P := pRem K CN) (WS := fun _ => False) h (ftR a) (er_is hm) (R2 := fun v _ => v = .int m) monoC (fun C hC => hC.elim) fun v w H1 e1 g1 g2 => ⟨toT a, m, g1.2, g2, (sz_fits g1.1).ok (by decide), by have := (sz_fits g1.1).ht; omega, fun _ _ => by rw [toT_val], fun h => absurd h1 h⟩)
theorem ev_remF {m : Int} (h : ER te σ H (FtR K a)) (hm : Ev tf σ H (.int m)) (h1 : 1 ≤ m ∧ m ≤ 10000) : Ev (tCall (sp_remainder K CN) [] E0 (tCons te (tCons tf tNil))) σ H (.int (a % m)) :=
  ev_er (er_xc2 (P := pRem K CN) (WS := fun _ => False) h (ftR a) (er_is hm) (R2 := fun v _ => v = .int m) monoC (fun C hC => hC.elim) fun v w H1 e1 g1 g2 => ⟨toT a, m, g1.2, g2, (sz_fits g1.1).ok (by decide), by have := (sz_fits g1.1).ht; omega, fun _ _ => by rw [toT_val], fun h => absurd h1 h⟩)
theorem ev_powRemN {e : Nat} {m : Int} (h : ER te σ H (NumR K (e : Int))) (hm : Ev tf σ H (.int m)) (ha : Sz (e : Int) 600 42) (h1 : 1 ≤ m ∧ m ≤ 10000) : Ev (tCall (sp_power_remainder K CN) [] E0 (tCons te (tCons tf tNil))) σ H (.int (2 ^ e % m)) :=
  ev_er (er_xc2 (P := pPowRem K CN) (WS := fun _ => False) h (numR _) (er_is hm) (R2 := fun v _ => v = .int m) monoC (fun C hC => hC.elim) fun v w H1 e1 g1 g2 => ⟨toT (e : Int), m, g1, g2, ha.ok (by decide), by have := ha.ht; omega, fun _ _ => by rw [toT_val, Int.toNat_natCast], fun h => absurd ⟨h1, by rw [toT_val]; omega⟩ h⟩)
end
end Sk

set_option Elab.async false
set_option linter.all false
set_option maxRecDepth 100000
set_option maxHeartbeats 2000000
namespace Sk
open PySem L2 Evl
/-- a sum of at most five signed powers of two below 2 ** 2800, and a small rest -/
def PlainN (n : Int) : Prop := ∃ m c : Int, n = m + c ∧ PlW 5 m ∧ c.natAbs ≤ 20
def pPlain : V → V → V → Hp → VP → Prop := fun x y z H R => Drawn 14 x H ∧ y = .int 0 ∧ z = .int 2800 ∧ R = fun v _ => ∃ n, v = .int n ∧ PlainN n
def sp_law_plain (K : PySem.W.Frag) : Sp := spF3 pPlain
def t_law_plain (K : PySem.W.Frag) : TS := (tSeq (tAsg (tC (.int 0)) (gName 3))
    (tSeq (tFor (iRng1 (tCons (tOp xMod (tCB xInt1 (tCons (tOp (rIxL K) (tVar 0) (tVar 1)) tNil)) (tC (.int 6))) tNil)) (gName 4) (tSeq (tAsg (tOp (rIxL K) (tLst (tCons (tOp xMod (tCB xInt1 (tCons (tOp (rIxL K) (tVar 0) (tOp xAdd (tOp xAdd (tVar 1) (tC (.int 1))) (tVar 4))) tNil)) (tC (.int 70))) (tCons (tOp xMod (tOp xMul (tCB xInt1 (tCons (tOp (rIxL K) (tVar 0) (tOp xAdd (tOp xAdd (tVar 1) (tC (.int 1))) (tVar 4))) tNil)) (tC (.int 7))) (tVar 2)) tNil))) (tOp xMod (tOp xFdiv (tCB xInt1 (tCons (tOp (rIxL K) (tVar 0) (tOp xAdd (tVar 1) (tC (.int 7)))) tNil)) (tOp xAdd (tC (.int 1)) (tVar 4))) (tC (.int 2)))) (gName 5))
    (tAsg (tOp xAdd (tVar 3) (tOp xMul (tOp xSub (tC (.int 1)) (tOp xMul (tC (.int 2)) (tOp xMod (tOp xFdiv (tCB xInt1 (tCons (tOp (rIxL K) (tVar 0) (tOp xAdd (tVar 1) (tC (.int 8)))) tNil)) (tOp xAdd (tC (.int 3)) (tVar 4))) (tC (.int 2))))) (tOp xShl (tC (.int 1)) (tVar 5)))) (gName 3))))
    (tRet (tOp xSub (tOp xAdd (tVar 3) (tOp xMod (tCB xInt1 (tCons (tOp (rIxL K) (tVar 0) (tOp xAdd (tVar 1) (tC (.int 9)))) tNil)) (tC (.int 41)))) (tC (.int 20))))))
theorem mod2 (z : Int) : z % 2 = ((0 : Nat) : Int) ∨ z % 2 = ((1 : Nat) : Int) := by omega
theorem pure_law_plain {K : PySem.W.Frag} {vs : List V} {H : Hp} {Q : VK} {E : XK} (h : sp_law_plain K vs H Q E) : t_law_plain K { nx := fun _ H' => Q .non H', rt := Q } (start ["numbers", "at", "most", "value", "k", "place"] vs) H := by
  obtain ⟨x, y, z, R, rfl, ⟨⟨l, hl, hb, p, rfl, hp⟩, rfl, rfl, rfl⟩, k⟩ := h
  have hat : ∀ i, i < 14 → 0 ≤ l.getD i 0 ∧ l.getD i 0 < 1000 := fun i hi => hb _ (getD_mem (by omega))
  have num : ∀ {σ : L2.St} {H1 : Hp} {te : TE} {kk : Int} (i : Nat), σ[0]? = some (some (.ref p)) → Ex H H1 → Ev te σ H1 (.int kk) → kk = (i : Int) → i < 14 → Ev (tCB xInt1 (tCons (tOp (rIxL K) (tVar 0) te) tNil)) σ H1 (.int (l.getD i 0)) :=
    fun i h0 e1 h1 h2 h3 => ev_int1 (ev_ints (ev_var h0) h1 h2 (sq_of (e1 p _ hp)) (by omega))
  refine q_asg ev_c fun H1 e1 => ?_
  have h0 := hat 0 (by omega)
  refine q_forR1 (n := l.getD 0 0 % 6) (ea_cons (ev_mod (num 0 rfl e1 (ev_var rfl) rfl (by omega)) ev_c (by decide)) ea_nil) ⟨by omega, by omega⟩
    (fun i σ H' => ∃ (m : Int) (z4 z5 : Option V), σ = [some (.ref p), some (.int 0), some (.int 2800), some (.int m), z4, z5] ∧ Ex H H' ∧ PlW i m) (fun H2 e2 => ⟨0, none, none, rfl, e1.trans e2, PlW.zero⟩) ?_ ?_
  · rintro i σ H' hi ⟨m, z4, z5, rfl, e2, hw⟩
    have hi5 : i < 5 := by omega
    have h7 := hat 7 (by omega)
    have h8 := hat 8 (by omega)
    have hk := hat (1 + i) (by omega)
    have hpl : ∃ pl : Nat, pl < 2800 ∧ Ev (tOp (rIxL K) (tLst (tCons (tOp xMod (tCB xInt1 (tCons (tOp (rIxL K) (tVar 0) (tOp xAdd (tOp xAdd (tVar 1) (tC (.int 1))) (tVar 4))) tNil)) (tC (.int 70))) (tCons (tOp xMod (tOp xMul (tCB xInt1 (tCons (tOp (rIxL K) (tVar 0) (tOp xAdd (tOp xAdd (tVar 1) (tC (.int 1))) (tVar 4))) tNil)) (tC (.int 7))) (tVar 2)) tNil))) (tOp xMod (tOp xFdiv (tCB xInt1 (tCons (tOp (rIxL K) (tVar 0) (tOp xAdd (tVar 1) (tC (.int 7)))) tNil)) (tOp xAdd (tC (.int 1)) (tVar 4))) (tC (.int 2))))
        [some (.ref p), some (.int 0), some (.int 2800), some (.int m), some (.int (i : Int)), z5] H' (.int (pl : Int)) := by
      have ea : EvA (tCons (tOp xMod (tCB xInt1 (tCons (tOp (rIxL K) (tVar 0) (tOp xAdd (tOp xAdd (tVar 1) (tC (.int 1))) (tVar 4))) tNil)) (tC (.int 70))) (tCons (tOp xMod (tOp xMul (tCB xInt1 (tCons (tOp (rIxL K) (tVar 0) (tOp xAdd (tOp xAdd (tVar 1) (tC (.int 1))) (tVar 4))) tNil)) (tC (.int 7))) (tVar 2)) tNil))
          [some (.ref p), some (.int 0), some (.int 2800), some (.int m), some (.int (i : Int)), z5] H' [.int (l.getD (1 + i) 0 % 70), .int (l.getD (1 + i) 0 * 7 % 2800)] :=
        ea_cons (ev_mod (num (1 + i) rfl e2 (ev_add (ev_add (ev_var rfl) ev_c) (ev_var rfl)) (by omega) (by omega)) ev_c (by decide)) (ea_cons (ev_mod (ev_mul (num (1 + i) rfl e2 (ev_add (ev_add (ev_var rfl) ev_c) (ev_var rfl)) (by omega) (by omega)) ev_c (.inr (by decide))) (ev_var rfl) (by decide)) ea_nil)
      have eb : Ev (tOp xMod (tOp xFdiv (tCB xInt1 (tCons (tOp (rIxL K) (tVar 0) (tOp xAdd (tVar 1) (tC (.int 7)))) tNil)) (tOp xAdd (tC (.int 1)) (tVar 4))) (tC (.int 2))) [some (.ref p), some (.int 0), some (.int 2800), some (.int m), some (.int (i : Int)), z5] H' (.int (l.getD 7 0 / (1 + (i : Int)) % 2)) :=
        ev_mod (ev_fdiv (num 7 rfl e2 (ev_add (ev_var rfl) ev_c) rfl (by omega)) (ev_add ev_c (ev_var rfl)) ⟨by omega, by omega⟩) ev_c (by decide)
      rcases mod2 (l.getD 7 0 / (1 + (i : Int))) with q | q
      · rw [q] at eb
        refine ⟨(l.getD (1 + i) 0 % 70).toNat, by omega, ev_is (ev_pickL ea (by show 2 ≤ 1000; omega) eb rfl) ?_⟩
        exact congrArg V.int (by omega)
      · rw [q] at eb
        refine ⟨(l.getD (1 + i) 0 * 7 % 2800).toNat, by omega, ev_is (ev_pickL ea (by show 2 ≤ 1000; omega) eb rfl) ?_⟩
        exact congrArg V.int (by omega)
    obtain ⟨pl, hpl1, hpl2⟩ := hpl
    refine q_asg hpl2 fun H3 e3 => ?_
    obtain ⟨s, hs, hsv⟩ : ∃ s : Int, (s = 1 ∨ s = -1) ∧ 1 - 2 * (l.getD 8 0 / (3 + (i : Int)) % 2) = s := ⟨_, by omega, rfl⟩
    refine s_asg (v := .int (m + s * 2 ^ pl)) (ev_is (ev_add (ev_var rfl) (ev_mul (i := s) (j := 1 * 2 ^ ((pl : Int)).toNat) (ev_is (ev_sub ev_c (ev_mul ev_c (ev_mod (ev_fdiv (num 8 rfl (e2.trans e3) (ev_add (ev_var rfl) ev_c) rfl (by omega)) (ev_add ev_c (ev_var rfl)) ⟨by omega, by omega⟩) ev_c (by decide)) (.inl (by decide)))) (congrArg V.int hsv)) (ev_shl ev_c (ev_var rfl) ⟨by omega, by omega, by decide⟩) (.inl (by rcases hs with rfl | rfl <;> decide)))) ?_) fun H4 e4 => ⟨_, _, _, rfl, (e2.trans e3).trans e4, hw.next hs hpl1⟩
    rw [Int.one_mul, Int.toNat_natCast]
  · rintro σ H' ⟨m, z4, z5, rfl, e2, hw⟩
    have h9 := hat 9 (by omega)
    refine s_ret (ev_sub (ev_add (ev_var rfl) (ev_mod (num 9 rfl e2 (ev_add (ev_var rfl) ev_c) rfl (by omega)) ev_c (by decide))) ev_c) fun H3 e3 => k _ _ (e2.trans e3) ⟨_, rfl, m, l.getD 9 0 % 41 - 20, by omega, hw.le (by omega), by omega⟩
/-! ### the law's own cycle -/
def pCycle : V → Hp → VP → Prop := fun x H R => ∃ m : Nat, x = .int (m : Int) ∧ 1 ≤ m ∧ m ≤ 10000 ∧ R = fun v H' => ∃ q n l, v = .ref q ∧ IsRow m n l ∧ H' q = some (.tup [.int (l : Int), .int ((n - l : Nat) : Int)])
def sp_law_cycle (K : PySem.W.Frag) : Sp := spF1 pCycle
def t_law_cycle (K : PySem.W.Frag) : TS := (tSeq (tAsg tDNewK (gName 1))
    (tSeq (tAsg (tOp xMod (tC (.int 1)) (tVar 0)) (gName 2))
    (tSeq (tFor (iRng1 (tCons (tC (.int 20001)) tNil)) (gName 3) (tSeq (tIfS (tB (tDIn (tVar 2) (tVar 1))) (tRet (tTup (tCons (tDGet (tVar 1) (tVar 2)) (tCons (tOp xSub (tVar 3) (tDGet (tVar 1) (tVar 2))) tNil)))) tNext)
    (tSeq (sDPut (tVar 1) (tVar 2) (tVar 3))
    (tAsg (tOp xMod (tOp xMul (tVar 2) (tC (.int 2))) (tVar 0)) (gName 2)))))
    (tRet (tC .non)))))
theorem pure_law_cycle {K : PySem.W.Frag} {vs : List V} {H : Hp} {Q : VK} {E : XK} (h : sp_law_cycle K vs H Q E) : t_law_cycle K { nx := fun _ H' => Q .non H', rt := Q } (start ["m", "seen", "power", "k"] vs) H := by
  obtain ⟨x, R, rfl, ⟨m, rfl, hm1, hm2, rfl⟩, k⟩ := h
  refine q_asgD fun d H2 hd e2 h2 => ?_
  refine q_asg (ev_mod ev_c (ev_var rfl) (by omega)) fun H3 e3 => ?_
  have hp1 : (1 : Int) % (m : Int) = ((2 ^ 0 % m : Nat) : Int) := by rw [Nat.pow_zero]; norm_cast
  rw [hp1]
  refine q_forR1 (ea_cons ev_c ea_nil) ⟨by decide, by decide⟩ (fun i σ H' => ∃ (z3 : Option V) (kvs : List (Key × V)), σ = [some (.int (m : Int)), some (.ref d), some (.int ((2 ^ i % m : Nat) : Int)), z3] ∧ Ex H H' ∧ H' d = some (.dK kvs) ∧ Plc m i kvs)
    (fun H4 e4 => ⟨none, [], rfl, (e2.trans e3).trans e4, (e3.trans e4) d _ h2, Plc.zero m⟩) ?_ ?_
  · rintro i σ H' hi ⟨z3, kvs, rfl, e4, h4, hP⟩
    have hi2 := hP.le (by omega)
    refine q_when (et_B (ev_din (ev_var rfl) (ev_var rfl) h4)) (fun hb H5 e5 => ?_) (fun hb H5 e5 => ?_)
    · obtain ⟨l', hr, hv⟩ := hP.done hb
      have hln := hr.1
      refine s_retU (eu_tup (vs := [.int (l' : Int), .int ((i - l' : Nat) : Int)]) (ea_cons (ev_dget (ev_var rfl) (ev_var rfl) (e5 d _ h4) hv) (ea_cons (ev_is (ev_sub (ev_var rfl) (ev_dget (ev_var rfl) (ev_var rfl) (e5 d _ h4) hv)) (congrArg V.int (by omega))) ea_nil)) (by show 2 ≤ 100000; omega)) fun q H6 _ e6 h6 => k _ _ (e4.trans (e5.trans e6)) ⟨q, i, l', rfl, hr, h6⟩
    · have hn : valV kvs (Sum.inl (((2 ^ i % m : Nat) : Int))) = none := by
        cases hq : valV kvs (Sum.inl (((2 ^ i % m : Nat) : Int))) with
        | none => rfl
        | some v => rw [hq] at hb; cases hb
      refine q_dput (e5 d _ h4) (v := .int (i : Int)) (ev_var rfl) (ev_var rfl) (ev_var rfl) (by rw [hP.len]; omega) fun H6 e6 => ?_
      refine s_asg (ev_mod (ev_mul (ev_var rfl) ev_c (.inr (by decide))) (ev_var rfl) (by omega)) fun H7 e7 => ⟨some (.int (i : Int)), _, ?_, (Ex.mut (e4.trans (e5.trans e6)) hd).trans e7, e7 d _ upd_same, hP.next hn⟩
      have : ((2 ^ i % m : Nat) : Int) * 2 % (m : Int) = ((2 ^ (i + 1) % m : Nat) : Int) := by rw [← pow_mod_succ, Nat.mul_comm]; norm_cast
      rw [this] <;> rfl
  · rintro σ H' ⟨z3, kvs, rfl, e4, h4, hP⟩
    have := hP.le (by omega)
    have h5 : (20001 : Int).toNat ≤ m := this
    omega
end Sk

set_option Elab.async false
set_option linter.all false
set_option maxRecDepth 100000
set_option maxHeartbeats 1000000
namespace Sk
open PySem L2 Evl
/-! ### _law_small -/
def Sm40 (n : Int) : Prop := ∀ x ∈ naf n 0, x.2 ≤ 40
instance (n : Int) : Decidable (Sm40 n) := inferInstanceAs (Decidable (∀ x ∈ naf n 0, x.2 ≤ 40))
def smV (n : Int) : V := if Sm40 n then .int n else .non
theorem p40 : 40 < 2 ^ 40 := by decide
theorem sm40_le {e : Nat} (h : e ≤ 40) : Sm40 (e : Int) := fun x hx => by
  have := naf_lt hx
  rw [Int.natAbs_natCast] at this
  omega
theorem not_sm40 {n : Int} (h : ¬ Sm40 n) : 2 ^ 40 < n.natAbs := by
  unfold Sm40 at h
  apply Classical.byContradiction
  intro hn
  refine h fun x hx => ?_
  apply Classical.byContradiction
  intro hx'
  have := big_of_place (b := 40) hx (by omega)
  omega
def pSmall (K : PySem.W.Frag) (d : Nat) : V → Hp → VP → Prop := fun x H R => ∃ n : Int, NumV K H x (toT n) ∧ (toT n).height < d ∧ R = fun v _ => v = smV n
def sp_law_small (K : PySem.W.Frag) (d : Nat) : Sp := spF1 (pSmall K d)
def t_law_small (K : PySem.W.Frag) (d : Nat) : TS := (tSeq (tAsg (tC (.int 0)) (gName 1))
    (tSeq (tFor (iTup K (tVar 0)) (gTup K 2 (gCons (gName 2) (gCons (gName 3) gNil))) (tSeq (tAsg (tCall (sp_law_small K d) [] E0 (tCons (tVar 3) tNil)) (gName 4))
    (tSeq (tIfS (tOr (tTest (tOp xIsN (tVar 4) (tC .non))) (tTest (tOp xGt (tVar 4) (tC (.int 40))))) (tRet (tC .non)) tNext)
    (tAsg (tOp xAdd (tVar 1) (tOp xMul (tVar 2) (tOp xShl (tC (.int 1)) (tVar 4)))) (gName 1)))))
    (tRet (tVar 1))))
def nafL (n : Int) : List (Int × Nat) := (naf n 0).reverse
theorem toL_nafL (n : Int) : (toT n).toL = (nafL n).map fun x : Int × Nat => (x.1, toT (x.2 : Int)) := toL_toT n
theorem mem_nafL {n : Int} {x : Int × Nat} : x ∈ nafL n ↔ x ∈ naf n 0 := List.mem_reverse
theorem sumP_nafL (n : Int) : sumP (nafL n) = n := by unfold nafL; rw [sumP_reverse, sumP_naf]
theorem take_snocP {l : List (Int × Nat)} {i : Nat} {s : Int} {e : Nat} (h : l[i]? = some (s, e)) : sumP (l.take (i + 1)) = sumP (l.take i) + s * 2 ^ e := by
  rw [take_snoc h, sumP_append]
  show _ = _ + s * 2 ^ e
  congr 1
  show s * 2 ^ e + 0 = _
  omega
/-- the terms of a number, one by one -/
theorem num_at {K : PySem.W.Frag} {H : Hp} {n : Int} {xs : List V} {i : Nat} {x : V} (hit : ItemsR (TermI K) (toT n).toL xs H) (hx : xs[i]? = some x) : ∃ s e p w, (nafL n)[i]? = some (s, e) ∧ x = .ref p ∧ SqT K H p [.int s, w] ∧ NumV K H w (toT (e : Int)) ∧ (s, e) ∈ naf n 0 := by
  obtain ⟨⟨s, e⟩, hse, p, w, rfl, hp, hw⟩ := hit.of_at hx
  rw [toL_nafL, List.getElem?_map] at hse
  match hq : (nafL n)[i]?, hse with
  | some (s', e'), hse =>
    cases hse
    exact ⟨s', e', p, w, rfl, rfl, hp, hw, mem_nafL.mp (List.mem_of_getElem? hq)⟩
  | none, hse => cases hse
theorem pure_law_small {K : PySem.W.Frag} {d : Nat} {vs : List V} {H : Hp} {Q : VK} {E : XK} (h : sp_law_small K (d + 1) vs H Q E) : t_law_small K d { nx := fun _ H' => Q .non H', rt := Q } (start ["number", "total", "sign", "exponent", "place"] vs) H := by
  obtain ⟨x, R, rfl, ⟨n, hx, hh, rfl⟩, k⟩ := h
  obtain ⟨a, xs, rfl, hs, ht⟩ := hx.out
  have hit := items_terms ht
  refine q_asg ev_c fun H1 e1 => ?_
  refine q_forT (xs := xs) (ev_var rfl) (ex_t e1 hs) (fun i σ H' => ∃ (z2 z3 z4 : Option V), σ = [some (.ref a), some (.int (sumP ((nafL n).take i))), z2, z3, z4] ∧ Ex H H' ∧ ∀ x ∈ (nafL n).take i, x.2 ≤ 40) (fun H2 e2 => ⟨none, none, none, by rw [List.take_zero]; rfl, e1.trans e2, fun x h => by rw [List.take_zero] at h; cases h⟩) (fun i σ' H' _ ⟨_, _, _, _, e, _⟩ => ex_t e hs) ?_ ?_
  · rintro i x σ' H' hi ⟨z2, z3, z4, rfl, e2, hw⟩
    obtain ⟨s, e, p, w, hse, rfl, hp, hwv, hm⟩ := num_at (hit.ex (fun a => (termI a).mono) e2) hi
    have hpl : (toT (e : Int)).size < (toT n).size ∧ (toT (e : Int)).height < (toT n).height := place_mem hm
    have hsg := naf_sign hm
    refine g_pair hp ?_
    refine q_asgR (R := fun v _ => v = smV e) (er_call1 (R1 := fun v H => NumV K H v (toT (e : Int))) (er_var rfl fun H3 e3 => hwv.ex e3) numT.mono fun v H3 e3 g => ⟨e, g, by omega, rfl⟩) fun v H3 e3 hv => ?_
    subst hv
    have hbad : 40 < e → ∀ H4, Ex H3 H4 → Q .non H4 := fun he H4 e4 => k _ _ (e2.trans (e3.trans e4)) (by
      have : ¬ Sm40 n := fun h => by have := h _ hm; omega
      unfold smV
      rw [if_neg this])
    by_cases h40 : Sm40 (e : Int)
    · have hsm : smV e = .int (e : Int) := if_pos h40
      rw [hsm]
      refine q_when (b := false || decide ((40 : Int) < (e : Int))) (et_or (et_test (ev_is (ev_isN (ev_var rfl)) rfl)) fun _ => et_test (ev_gt (ev_var rfl) ev_c)) (fun hb H4 e4 => ?_) (fun hb H4 e4 => ?_)
      · have : (40 : Int) < (e : Int) := of_decide_eq_true hb
        exact s_ret ev_c fun H5 e5 => hbad (by omega) _ (e4.trans e5)
      · have hle : ¬ (40 : Int) < (e : Int) := of_decide_eq_false hb
        refine s_asg (v := .int (sumP ((nafL n).take i) + s * 2 ^ e)) (ev_is (ev_add (ev_var rfl) (ev_mul (ev_var rfl) (ev_shl ev_c (ev_var rfl) ⟨by omega, by omega, by decide⟩) (.inl (by rcases hsg with h | h <;> (have h' : s = _ := h; subst h'; decide))))) (by rw [Int.one_mul, Int.toNat_natCast])) fun H5 e5 => ?_
        refine ⟨_, _, _, by rw [take_snocP hse]; rfl, e2.trans (e3.trans (e4.trans e5)), fun x hx => ?_⟩
        rw [take_snoc hse] at hx
        rcases List.mem_append.mp hx with h | h
        · exact hw x h
        · rw [List.mem_singleton.mp h]; show e ≤ 40; omega
    · have hsm : smV e = .non := if_neg h40
      have hb := not_sm40 h40
      rw [Int.natAbs_natCast] at hb
      rw [hsm]
      refine q_when (b := true || true) (et_or (b := true) (et_test (ev_is (ev_isN (ev_var rfl)) rfl)) fun h => by cases h) (fun _ H4 e4 => s_ret ev_c fun H5 e5 => hbad (by have := p40; omega) _ (e4.trans e5)) (fun h => by cases h)
  · rintro σ' H' ⟨z2, z3, z4, rfl, e2, hw⟩
    have hlen : xs.length = (nafL n).length := by rw [hit.1, toL_nafL, List.length_map]
    rw [hlen, List.take_length] at hw ⊢
    rw [sumP_nafL]
    refine s_ret (ev_var rfl) fun H3 e3 => k _ _ (e2.trans e3) ?_
    have : Sm40 n := fun x hx => hw x (mem_nafL.mpr hx)
    unfold smV
    rw [if_pos this]
/-! ### _law_remainder, _law_power -/
def pLRem (K : PySem.W.Frag) (d : Nat) : V → V → Hp → VP → Prop := fun x y H R => ∃ n m : Int, NumV K H x (toT n) ∧ (toT n).height < d ∧ d ≤ 14 ∧ y = .int m ∧ 1 ≤ m ∧ m ≤ 10000 ∧ R = fun v _ => v = .int (n % m)
def pLPow (K : PySem.W.Frag) (d : Nat) : V → V → Hp → VP → Prop := fun x y H R => ∃ (e : Nat) (m : Int), NumV K H x (toT (e : Int)) ∧ (toT (e : Int)).height < d ∧ d ≤ 13 ∧ y = .int m ∧ 1 ≤ m ∧ m ≤ 10000 ∧ R = fun v _ => v = .int (2 ^ e % m)
def sp_law_remainder (K : PySem.W.Frag) (d : Nat) : Sp := spF2 (pLRem K d)
def sp_law_power (K : PySem.W.Frag) (d : Nat) : Sp := spF2 (pLPow K d)
def t_law_remainder (K : PySem.W.Frag) (d : Nat) : TS := (tSeq (tAsg (tC (.int 0)) (gName 2))
    (tSeq (tFor (iTup K (tVar 0)) (gTup K 2 (gCons (gName 3) (gCons (gName 4) gNil))) (tAsg (tOp xAdd (tVar 2) (tOp xMul (tVar 3) (tCall (sp_law_power K d) [] E0 (tCons (tVar 4) (tCons (tVar 1) tNil))))) (gName 2)))
    (tRet (tOp xMod (tCB xInt1 (tCons (tVar 2) tNil)) (tVar 1)))))
def t_law_power (K : PySem.W.Frag) (d : Nat) : TS := (tSeq (tAsg tDNewK (gName 2))
    (tSeq (tAsg (tLst tNil) (gName 3))
    (tSeq (tAsg (tOp xMod (tC (.int 1)) (tVar 1)) (gName 4))
    (tSeq (tFor (iRng1 (tCons (tC (.int 10014)) tNil)) (gName 5) (tSeq (tIfS (tB (tDIn (tVar 4) (tVar 2))) tBreak tNext)
    (tSeq (sDPut (tVar 2) (tVar 4) (tVar 5))
    (tSeq (tDrop (tBM K "list" rAppend (tVar 3) (tCons (tVar 4) tNil)))
    (tAsg (tOp xMod (tCB xInt1 (tCons (tOp xMul (tVar 4) (tC (.int 2))) tNil)) (tVar 1)) (gName 4))))))
    (tSeq (tAsg (tDGet (tVar 2) (tVar 4)) (gName 6))
    (tSeq (tAsg (tOp xSub (tCB (rLenS K) (tCons (tVar 3) tNil)) (tVar 6)) (gName 7))
    (tSeq (tAsg (tCall (sp_law_small K 14) [] E0 (tCons (tVar 0) tNil)) (gName 8))
    (tSeq (tIfS (tAnd (tTest (tOp xNotN (tVar 8) (tC .non))) (tTest (tOp xLt (tVar 8) (tCB (rLenS K) (tCons (tVar 3) tNil))))) (tRet (tOp (rIxL K) (tVar 3) (tVar 8))) tNext)
    (tRet (tOp (rIxL K) (tVar 3) (tOp xAdd (tVar 6) (tOp xMod (tCB xInt1 (tCons (tOp xSub (tCall (sp_law_remainder K d) [] E0 (tCons (tVar 0) (tCons (tVar 7) tNil))) (tVar 6)) tNil)) (tVar 7)))))))))))))
theorem sumP_modS {m : Int} {a b s : Int} {e : Nat} (h : a % m = b % m) : (a + s * (2 ^ e % m)) % m = (b + s * 2 ^ e) % m := by
  rw [Int.add_emod, h, Int.mul_emod, Int.emod_emod, ← Int.mul_emod, ← Int.add_emod]
theorem pure_law_remainder {K : PySem.W.Frag} {d : Nat} {vs : List V} {H : Hp} {Q : VK} {E : XK} (h : sp_law_remainder K (d + 1) vs H Q E) : t_law_remainder K d { nx := fun _ H' => Q .non H', rt := Q } (start ["number", "m", "total", "sign", "exponent"] vs) H := by
  obtain ⟨x, y, R, rfl, ⟨n, m, hx, hh, hd, rfl, hm1, hm2, rfl⟩, k⟩ := h
  obtain ⟨a, xs, rfl, hs, ht⟩ := hx.out
  have hit := items_terms ht
  refine q_asg ev_c fun H1 e1 => ?_
  refine q_forT (xs := xs) (ev_var rfl) (ex_t e1 hs) (fun i σ H' => ∃ (tot : Int) (z3 z4 : Option V), σ = [some (.ref a), some (.int m), some (.int tot), z3, z4] ∧ Ex H H' ∧ tot % m = sumP ((nafL n).take i) % m) (fun H2 e2 => ⟨0, none, none, rfl, e1.trans e2, by rw [List.take_zero]; rfl⟩) (fun i σ' H' _ ⟨_, _, _, _, e, _⟩ => ex_t e hs) ?_ ?_
  · rintro i x σ' H' hi ⟨tot, z3, z4, rfl, e2, hw⟩
    obtain ⟨s, e, p, w, hse, rfl, hp, hwv, hm⟩ := num_at (hit.ex (fun a => (termI a).mono) e2) hi
    have hpl : (toT (e : Int)).size < (toT n).size ∧ (toT (e : Int)).height < (toT n).height := place_mem hm
    have hsg := naf_sign hm
    refine g_pair hp ?_
    refine s_asg (v := .int (tot + s * (2 ^ e % m))) (ev_add (ev_var rfl) (ev_mul (ev_var rfl) (ev_er (er_call2 (R1 := fun v H => NumV K H v (toT (e : Int))) (R2 := fun v _ => v = .int m) (er_var rfl fun H3 e3 => hwv.ex e3) numT.mono (er_is (ev_var rfl)) monoC fun v w H3 e3 g1 g2 => ⟨e, m, g1, by omega, by omega, g2, hm1, hm2, rfl⟩)) (.inl (by rcases hsg with h | h <;> (have h' : s = _ := h; subst h'; decide))))) fun H3 e3 => ⟨_, _, _, rfl, e2.trans e3, ?_⟩
    rw [take_snocP hse]
    exact sumP_modS hw
  · rintro σ' H' ⟨tot, z3, z4, rfl, e2, hw⟩
    have hlen : xs.length = (nafL n).length := by rw [hit.1, toL_nafL, List.length_map]
    rw [hlen, List.take_length, sumP_nafL] at hw
    refine s_ret (ev_mod (ev_int1 (ev_var rfl)) (ev_var rfl) (by omega)) fun H3 e3 => k _ _ (e2.trans e3) (by rw [hw])
theorem vac_law_remainder {K : PySem.W.Frag} {vs : List V} {H : Hp} {Q : VK} {E : XK} (h : sp_law_remainder K 0 vs H Q E) : False := by obtain ⟨x, y, R, _, ⟨_, _, _, h, _⟩, _⟩ := h; exact Nat.not_lt_zero _ h
theorem vac_law_small {K : PySem.W.Frag} {vs : List V} {H : Hp} {Q : VK} {E : XK} (h : sp_law_small K 0 vs H Q E) : False := by obtain ⟨x, R, _, ⟨_, _, h, _⟩, _⟩ := h; exact Nat.not_lt_zero _ h
theorem pure_law_power {K : PySem.W.Frag} {d : Nat} {vs : List V} {H : Hp} {Q : VK} {E : XK} (h : sp_law_power K d vs H Q E) : t_law_power K d { nx := fun _ H' => Q .non H', rt := Q } (start ["exponent", "m", "seen", "row", "power", "k", "lead", "period", "small"] vs) H := by
  obtain ⟨x, y, R, rfl, ⟨e, m', hx, hh, hd, rfl, hm1, hm2, rfl⟩, k⟩ := h
  obtain ⟨m, rfl⟩ : ∃ m : Nat, m' = (m : Int) := ⟨m'.toNat, by omega⟩
  refine q_asgD fun dd H2 hdd e2 h2 => ?_
  refine q_asgL (el_lst ea_nil (by decide)) fun l H3 hl e3 h3 => ?_
  have hdl : dd ≠ l := fun q => by subst q; rw [h2] at hl; cases hl
  have hl0 : H l = none := fresh_back e2 hl
  have e23 := e2.trans e3
  refine q_asg (ev_mod ev_c (ev_var rfl) (by omega)) fun H4 e4 => ?_
  have hp1 : (1 : Int) % (m : Int) = ((2 ^ 0 % m : Nat) : Int) := by rw [Nat.pow_zero]; norm_cast
  rw [hp1]
  let Wl : Nat → L2.St → Hp → Prop := fun i σ H' => ∃ (z5 : Option V) (kvs : List (Key × V)), σ = [some x, some (.int (m : Int)), some (.ref dd), some (.ref l), some (.int ((2 ^ i % m : Nat) : Int)), z5, none, none, none] ∧ Ex H H' ∧ H' dd = some (.dK kvs) ∧ H' l = some (.lst ((pows m i).map V.int)) ∧ Plc m i kvs
  have hend : ∀ (i : Nat) (kvs : List (Key × V)) (z5 : Option V) (H5 : Hp), Ex H H5 → H5 dd = some (.dK kvs) → H5 l = some (.lst ((pows m i).map V.int)) → Plc m i kvs → (valV kvs (Sum.inl (((2 ^ i % m : Nat) : Int)))).isSome = true → tSeq (tAsg (tDGet (tVar 2) (tVar 4)) (gName 6))
    (tSeq (tAsg (tOp xSub (tCB (rLenS K) (tCons (tVar 3) tNil)) (tVar 6)) (gName 7))
    (tSeq (tAsg (tCall (sp_law_small K 14) [] E0 (tCons (tVar 0) tNil)) (gName 8))
    (tSeq (tIfS (tAnd (tTest (tOp xNotN (tVar 8) (tC .non))) (tTest (tOp xLt (tVar 8) (tCB (rLenS K) (tCons (tVar 3) tNil))))) (tRet (tOp (rIxL K) (tVar 3) (tVar 8))) tNext)
    (tRet (tOp (rIxL K) (tVar 3) (tOp xAdd (tVar 6) (tOp xMod (tCB xInt1 (tCons (tOp xSub (tCall (sp_law_remainder K d) [] E0 (tCons (tVar 0) (tCons (tVar 7) tNil))) (tVar 6)) tNil)) (tVar 7)))))))) { nx := fun _ H' => Q .non H', rt := Q } [some x, some (.int (m : Int)), some (.ref dd), some (.ref l), some (.int ((2 ^ i % m : Nat) : Int)), z5, none, none, none] H5 := by
    intro i kvs z5 H5 e5 hk5 hl5 hP hb
    obtain ⟨l', hr, hv⟩ := hP.done hb
    have hln := hr.1
    have hile := hP.le (by omega)
    have hlen : ((pows m i).map V.int).length = i := by rw [List.length_map, pows_len]
    refine q_asg (ev_dget (ev_var rfl) (ev_var rfl) hk5 hv) fun H6 e6 => ?_
    refine q_asg (v := .int ((i - l' : Nat) : Int)) (ev_is (ev_sub (ev_len (ev_var rfl) (sq_of (e6 l _ hl5))) (ev_var rfl)) (by rw [hlen]; exact congrArg V.int (by omega))) fun H7 e7 => ?_
    have e67 := e6.trans e7
    refine q_asgR (R := fun v _ => v = smV e) (er_call1 (R1 := fun v H => NumV K H v (toT (e : Int))) (er_var rfl fun H8 e8 => hx.ex (e5.trans (e67.trans e8))) numT.mono fun v H8 e8 g => ⟨e, g, by omega, rfl⟩) fun v H8 e8 hv8 => ?_
    subst hv8
    have e68 := e67.trans e8
    have hbig : i ≤ e → ∀ H9, Ex H8 H9 → tRet (tOp (rIxL K) (tVar 3) (tOp xAdd (tVar 6) (tOp xMod (tCB xInt1 (tCons (tOp xSub (tCall (sp_law_remainder K d) [] E0 (tCons (tVar 0) (tCons (tVar 7) tNil))) (tVar 6)) tNil)) (tVar 7)))) { nx := fun _ H' => Q .non H', rt := Q } [some x, some (.int (m : Int)), some (.ref dd), some (.ref l), some (.int ((2 ^ i % m : Nat) : Int)), z5, some (.int (l' : Int)), some (.int ((i - l' : Nat) : Int)), some (smV e)] H9 := by
      intro hle H9 e9
      have hp0 : 0 < i - l' := by omega
      have hidx : (l' : Int) + ((e : Int) % ((i - l' : Nat) : Int) - (l' : Int)) % ((i - l' : Nat) : Int) = ((l' + (e - l') % (i - l') : Nat) : Int) := by
        rw [Int.emod_sub_emod, show (e : Int) - (l' : Int) = ((e - l' : Nat) : Int) by omega]
        norm_cast
      refine s_ret (v := .int ((2 ^ e % m : Nat) : Int)) (ev_at (ev_var rfl) (ev_add (ev_var rfl) (ev_mod (ev_int1 (ev_sub (i := (e : Int) % ((i - l' : Nat) : Int)) (ev_er (er_call2 (R1 := fun v H => NumV K H v (toT (e : Int))) (R2 := fun v _ => v = .int ((i - l' : Nat) : Int)) (er_var rfl fun H10 e10 => hx.ex (e5.trans (e68.trans (e9.trans e10)))) numT.mono (er_is (ev_var rfl)) monoC fun v w H10 e10 g1 g2 => ⟨e, _, g1, hh, by omega, g2, by omega, by omega, rfl⟩)) (ev_var rfl))) (ev_var rfl) (by omega))) (sq_of ((e68.trans e9) l _ hl5)) ?_) fun H10 e10 => k _ _ (e5.trans (e68.trans (e9.trans e10))) (by show V.int _ = V.int _; norm_cast)
      rw [hidx, hr.turn (show l' ≤ e by omega)]
      exact atI_of (pows_at (by have := Nat.mod_lt (e - l') hp0; omega))
    by_cases h40 : Sm40 (e : Int)
    · have hsm : smV e = .int (e : Int) := if_pos h40
      rw [hsm] at hbig ⊢
      refine q_when (b := !false && decide ((e : Int) < (((pows m i).map V.int).length : Int))) (et_and (et_test (ev_is (ev_notN (ev_var rfl)) rfl)) fun _ => et_test (ev_lt (ev_var rfl) (ev_len (ev_var rfl) (sq_of (e68 l _ hl5))))) (fun hb2 H9 e9 => ?_) (fun hb2 H9 e9 => ?_)
      · have hlt : (e : Int) < (((pows m i).map V.int).length : Int) := of_decide_eq_true hb2
        rw [hlen] at hlt
        refine s_ret (v := .int ((2 ^ e % m : Nat) : Int)) (ev_at (ev_var rfl) (ev_var rfl) (sq_of ((e68.trans e9) l _ hl5)) (atI_of (pows_at (by omega)))) fun H10 e10 => k _ _ (e5.trans (e68.trans (e9.trans e10))) (by show V.int _ = V.int _; norm_cast)
      · have hlt : ¬ (e : Int) < (((pows m i).map V.int).length : Int) := of_decide_eq_false hb2
        rw [hlen] at hlt
        exact hbig (by omega) H9 e9
    · have hsm : smV e = .non := if_neg h40
      have hbg := not_sm40 h40
      rw [Int.natAbs_natCast] at hbg
      have h2 : 10000 < 2 ^ 40 := by decide
      rw [hsm] at hbig ⊢
      refine q_when (b := false && true) (et_and (et_test (ev_is (ev_notN (ev_var rfl)) rfl)) fun h => by cases h) (fun h => by cases h) fun _ H9 e9 => hbig (by omega) H9 e9
  refine q_forR1 (ea_cons ev_c ea_nil) ⟨by decide, by decide⟩ Wl (fun H5 e5 => ⟨none, [], rfl, e23.trans (e4.trans e5), (e3.trans (e4.trans e5)) dd _ h2, (e4.trans e5) l _ h3, Plc.zero m⟩) ?_ ?_
  · rintro i σ H' hi ⟨z5, kvs, rfl, e5, hk5, hl5, hP⟩
    have hi2 := hP.le (by omega)
    refine q_when (et_B (ev_din (ev_var rfl) (ev_var rfl) hk5)) (fun hb H6 e6 => ?_) (fun hb H6 e6 => ?_)
    · exact hend i kvs _ H6 (e5.trans e6) (e6 dd _ hk5) (e6 l _ hl5) hP hb
    · have hn : valV kvs (Sum.inl (((2 ^ i % m : Nat) : Int))) = none := by
        cases hq : valV kvs (Sum.inl (((2 ^ i % m : Nat) : Int))) with
        | none => rfl
        | some v => rw [hq] at hb; cases hb
      refine q_dput (e6 dd _ hk5) (v := .int (i : Int)) (ev_var rfl) (ev_var rfl) (ev_var rfl) (by rw [hP.len]; omega) fun H7 e7 => ?_
      have e67 := e6.trans e7
      have hl7 : (upd H7 dd (.dK (putK kvs (Sum.inl (((2 ^ i % m : Nat) : Int))) (.int (i : Int))))) l = some (.lst ((pows m i).map V.int)) := by rw [upd_ne (Ne.symm hdl)]; exact e67 l _ hl5
      refine q_app hl7 (ev_var rfl) (ev_var rfl) (by rw [List.length_map, pows_len]; omega) fun H8 e8 => ?_
      refine s_asg (ev_mod (ev_int1 (ev_mul (ev_var rfl) ev_c (.inr (by decide)))) (ev_var rfl) (by omega)) fun H9 e9 => ⟨some (.int (i : Int)), _, ?_, ?_, e9 dd _ (by rw [upd_ne hdl]; exact e8 dd _ upd_same), ?_, hP.next hn⟩
      · have : ((2 ^ i % m : Nat) : Int) * 2 % (m : Int) = ((2 ^ (i + 1) % m : Nat) : Int) := by rw [← pow_mod_succ, Nat.mul_comm]; norm_cast
        rw [this] <;> rfl
      · exact (Ex.mut ((Ex.mut (e5.trans e67) hdd).trans e8) hl0).trans e9
      · refine e9 l _ ?_
        rw [upd_same, pows_succ, List.map_append]
        rfl
  · rintro σ H' ⟨z5, kvs, rfl, e5, hk5, hl5, hP⟩
    have := hP.le (by omega)
    have h5 : (10014 : Int).toNat ≤ m := this
    omega
end Sk

set_option Elab.async false
set_option linter.all false
set_option maxRecDepth 100000
set_option maxHeartbeats 1000000
namespace Sk
open PySem L2 Evl
def pLPair (K : PySem.W.Frag) : V → V → V → Hp → VP → Prop := fun x y z H R => ∃ a b m : Int, FtR K a x H ∧ FtR K b y H ∧ z = .int m ∧ 1 ≤ m ∧ m ≤ 10000 ∧ R = fun v _ => v = .bl true
def sp_law_pair (K : PySem.W.Frag) : Sp := spF3 (pLPair K)
def t_law_pair (K : PySem.W.Frag) (a_NotAllowed : Addr) (a_TooLarge : Addr) : TS := (tSeq (tAsg (tCall (sp_remainder K a_NotAllowed) [] E0 (tCons (tVar 0) (tCons (tVar 2) tNil))) (gName 3))
    (tSeq (tAsg (tCall (sp_remainder K a_NotAllowed) [] E0 (tCons (tVar 1) (tCons (tVar 2) tNil))) (gName 4))
    (fun D σ H => (fun W => (tSeq (tIfS (tTest (tOp rNe (tCallS (sp_remainder K a_NotAllowed) (WE W) (tCons (tCallS (sp_add K a_TooLarge) (WE W) (tCons (tVar 0) (tCons (tVar 1) tNil))) (tCons (tVar 2) tNil))) (tOp xMod (tCB xInt1 (tCons (tOp xAdd (tVar 3) (tVar 4)) tNil)) (tVar 2)))) (tRet (tC (.bl false))) tNext)
    (tSeq (tIfS (tTest (tOp rNe (tCallS (sp_remainder K a_NotAllowed) (WE W) (tCons (tCallS (sp_subtract K a_TooLarge) (WE W) (tCons (tVar 0) (tCons (tVar 1) tNil))) (tCons (tVar 2) tNil))) (tOp xMod (tCB xInt1 (tCons (tOp xSub (tVar 3) (tVar 4)) tNil)) (tVar 2)))) (tRet (tC (.bl false))) tNext)
    (tRet (tOp rEq (tCallS (sp_remainder K a_NotAllowed) (WE W) (tCons (tCallS (sp_multiply K a_TooLarge) (WE W) (tCons (tVar 0) (tCons (tVar 1) tNil))) (tCons (tVar 2) tNil))) (tOp xMod (tCB xInt1 (tCons (tOp xMul (tVar 3) (tVar 4)) tNil)) (tVar 2))))))) (wOnly K (.ref a_TooLarge) (fun a cls d => (tRet (tC (.bl true)))) (fun _ _ _ _ => False) D) D σ H)))
theorem pure_law_pair {K : PySem.W.Frag} {CN CL : Addr} (hex : PySem.W.exmOne K (.ref CL) (.ref CL) = some true) {vs : List V} {H : Hp} {Q : VK} {E : XK} (h : sp_law_pair K vs H Q E) : t_law_pair K CN CL { nx := fun _ H' => Q .non H', rt := Q } (start ["first", "second", "m", "one", "other"] vs) H := by
  obtain ⟨x, y, z, R, rfl, ⟨a, b, m, hx, hy, rfl, hm1, hm2, rfl⟩, k⟩ := h
  have sa := sz_fits hx.1
  have sb := sz_fits hy.1
  refine q_asg (ev_remF (er_var' rfl hx (ftR a)) (ev_var rfl) ⟨hm1, hm2⟩) fun H1 e1 => ?_
  refine q_asg (ev_remF (er_var' rfl (ftR b _ _ _ e1 hy) (ftR b)) (ev_var rfl) ⟨hm1, hm2⟩) fun H2 e2 => ?_
  have e12 := e1.trans e2
  have wish : ∀ {σ : L2.St} {H3 : Hp} {nx ct bk}, Ex H2 H3 → Wsh K (WE (wOnly K (.ref CL) (fun a cls d => (tRet (tC (.bl true)))) (fun _ _ _ _ => False) { nx := nx, rt := Q, ct := ct, bk := bk })) σ H3 CL := fun {σ H3 nx ct bk} e3 H4 e4 d hd => ⟨true, hex, fun _ a ha => s_ret ev_c fun H5 e5 => k _ _ (e12.trans (e3.trans (e4.trans e5))) rfl, fun h => by cases h⟩
  have vx : ∀ {σ : L2.St} {H3 : Hp}, σ[0]? = some (some x) → Ex H2 H3 → ER (tVar 0) σ H3 (NumR K a) := fun h e => er_var' h (hx.2.ex (e12.trans e)) (numR a)
  have vy : ∀ {σ : L2.St} {H3 : Hp}, σ[1]? = some (some y) → Ex H2 H3 → ER (tVar 1) σ H3 (NumR K b) := fun h e => er_var' h (hy.2.ex (e12.trans e)) (numR b)
  refine q_when (b := false) (et_test (ev_is (ev_ne (ev_remFS (er_addS (vx rfl (Ex.refl _)) (vy rfl (Ex.refl _)) (sa.mono (by decide) (by decide)) (sb.mono (by decide) (by decide)) fun _ => wish (Ex.refl _)) (ev_var rfl) ⟨hm1, hm2⟩) (ev_mod (ev_int1 (ev_add (ev_var rfl) (ev_var rfl))) (ev_var rfl) (by omega)) rfl) (by rw [← Int.add_emod, decide_eq_true rfl]; rfl))) (fun h => by cases h) fun _ H3 e3 => ?_
  refine q_when (b := false) (et_test (ev_is (ev_ne (ev_remFS (er_subS (vx rfl e3) (vy rfl e3) (sa.mono (by decide) (by decide)) (sb.mono (by decide) (by decide)) fun _ => wish e3) (ev_var rfl) ⟨hm1, hm2⟩) (ev_mod (ev_int1 (ev_sub (ev_var rfl) (ev_var rfl))) (ev_var rfl) (by omega)) rfl) (by rw [← Int.sub_emod, decide_eq_true rfl]; rfl))) (fun h => by cases h) fun _ H4 e4 => ?_
  have e34 := e3.trans e4
  refine s_ret (v := .bl true) (ev_is (ev_eq (ev_remFS (er_mulS (vx rfl e34) (vy rfl e34) (sa.mono (by decide) (by decide)) (sb.mono (by decide) (by decide)) fun _ => wish e34) (ev_var rfl) ⟨hm1, hm2⟩) (ev_mod (ev_int1 (ev_mul (ev_var rfl) (ev_var rfl) (.inl (by have := Int.emod_nonneg a (show m ≠ 0 by omega); have := Int.emod_lt_of_pos a (show 0 < m by omega); constructor <;> omega)))) (ev_var rfl) (by omega)) rfl) (by rw [← Int.mul_emod, decide_eq_true rfl])) fun H5 e5 => k _ _ (e12.trans (e34.trans e5)) rfl
end Sk

set_option Elab.async false
set_option linter.all false
set_option maxRecDepth 100000
set_option maxHeartbeats 1000000
namespace Sk
open PySem L2 Evl
theorem toT_pow2 (e : Nat) : toT (2 ^ e) = .cons 1 (toT (e : Int)) .nil := by
  have : naf (2 ^ e) 0 = [(1, e)] := by
    have h := naf_shift 1 e 0
    rw [Int.mul_one, Nat.zero_add] at h
    rw [h, naf_odd (by decide), show ((1 : Int) - (2 - 1 % 4)) / 2 = 0 by decide, naf_zero]
    rfl
  rw [toT_eq, this] <;> rfl
section
variable {K : PySem.W.Frag} {CN CL : Addr} {σ : L2.St} {H : Hp} {te tf : TE}
theorem er_negN {n : Int} (h : ER te σ H (NumR K n)) (hl : wt n < 90000) : ER (tCall (sp_negate K) [] E0 (tCons te tNil)) σ H (NumR K (-n)) :=
  er_call1 h (numR n) fun v H1 e1 g => ⟨toT n, g, by rw [lenT]; exact hl, by unfold NumR; rw [negT_toT]⟩
theorem ev_signN {n : Int} (h : ER te σ H (NumR K n)) : Ev (tCall (sp_sign_of K) [] E0 (tCons te tNil)) σ H (.int (toT n).sgn) := ev_sign h
/-- an if that turns the sign of a negative one: slot j holds a copy of slot i -/
theorem q_absJ {D : Ends} {tz : TS} {i j : Nat} {v : V} {n : Int} (hi : σ[i]? = some (some v)) (hj : σ.set j (some v) = σ) (hv : NumV K H v (toT n)) (hl : wt n < 90000) (k : ∀ w H1, Ex H H1 → NumV K H1 w (toT (n.natAbs : Int)) → tz D (σ.set j (some w)) H1) :
    tSeq (tIfS (tTest (tOp xLt (tCall (sp_sign_of K) [] E0 (tCons (tVar i) tNil)) (tC (.int 0)))) (tAsg (tCall (sp_negate K) [] E0 (tCons (tVar i) tNil)) (gName j)) tNext) tz D σ H := by
  refine q_when (et_test (ev_lt (ev_signN (er_var' hi hv (numR n))) ev_c)) (fun hb H1 e1 => ?_) (fun hb H1 e1 => ?_)
  · rw [toT_sgn_neg] at hb
    have hn : n < 0 := of_decide_eq_true hb
    refine s_asgR (er_negN (er_var' hi (hv.ex e1) (numR n)) hl) fun w H2 e2 g => k w H2 (e1.trans e2) ?_
    have : (n.natAbs : Int) = -n := by omega
    rw [this]
    exact g
  · rw [toT_sgn_neg] at hb
    have hn : ¬ n < 0 := of_decide_eq_false hb
    have := k v H1 e1 (by have e : (n.natAbs : Int) = n := by omega
                          rw [e]; exact hv.ex e1)
    rw [hj] at this
    exact this
end
def pLaw (K : PySem.W.Frag) : V → Hp → VP → Prop := fun x H R => ∃ (a : Addr) (ns : List Int), x = .ref a ∧ SqL K H a (ns.map V.int) ∧ ns.length ≤ 63 ∧ R = fun v _ => v = .bl true
def sp_law (K : PySem.W.Frag) : Sp := spF1 (pLaw K)
def t_law (K : PySem.W.Frag) (a_NotAllowed : Addr) : TS := (tSeq (tFor (iRng1 (tCons (tCB xMax2 (tCons (tC (.int 1)) (tCons (tCB xMin2 (tCons (tCB (rLenS K) (tCons (tVar 0) tNil)) (tCons (tC (.int 4)) tNil))) tNil))) tNil)) (gName 1) (tSeq (tAsg (tCall (sp_law_numbers K) [] E0 (tCons (tCall (sp_law_cell K) [] E0 (tCons (tVar 0) (tCons (tVar 1) tNil))) (tCons (tVar 1) (tCons (tC (.int 50)) tNil)))) (gName 2))
    (tSeq (tAsg (tCall (sp_law_great K 5) [] E0 (tCons (tVar 2) (tCons (tC (.int 0)) (tCons (tOp xAdd (tC (.int 1)) (tOp xMod (tCB xInt1 (tCons (tOp (rIxL K) (tVar 2) (tC (.int 48))) tNil)) (tC (.int 4)))) tNil)))) (gName 3))
    (tSeq (tAsg (tCall (sp_law_great K 5) [] E0 (tCons (tVar 2) (tCons (tC (.int 7)) (tCons (tOp xAdd (tC (.int 1)) (tOp xMod (tCB xInt1 (tCons (tOp (rIxL K) (tVar 2) (tC (.int 47))) tNil)) (tC (.int 3)))) tNil)))) (gName 4))
    (tFor (iRng1 (tCons (tC (.int 3)) tNil)) (gName 5) (tSeq (tAsg (tOp xAdd (tC (.int 1)) (tOp xMod (tOp xMul (tCB xInt1 (tCons (tOp (rIxL K) (tVar 2) (tOp xAdd (tC (.int 40)) (tVar 5))) tNil)) (tOp xAdd (tC (.int 1)) (tVar 5))) (tC (.int 600)))) (gName 6))
    (tSeq (tIfS (tAnd (tTest (tOp rEq (tVar 5) (tC (.int 2)))) (tTest (tOp rEq (tOp xMod (tCB xInt1 (tCons (tOp (rIxL K) (tVar 2) (tC (.int 46))) tNil)) (tC (.int 6))) (tC (.int 0))))) (tAsg (tOp xSub (tC (.int 10000)) (tOp xMod (tOp xMul (tCB xInt1 (tCons (tOp (rIxL K) (tVar 2) (tOp xAdd (tC (.int 40)) (tVar 5))) tNil)) (tC (.int 9))) (tC (.int 9400)))) (gName 6)) tNext)
    (tSeq (tIfS (tOr (tTest (tOp rNe (tCall (sp_remainder K a_NotAllowed) [] E0 (tCons (tVar 3) (tCons (tVar 6) tNil))) (tCall (sp_law_remainder K 14) [] E0 (tCons (tVar 3) (tCons (tVar 6) tNil))))) (tNot (tB (tCall (sp_law_pair K) [] E0 (tCons (tVar 3) (tCons (tVar 4) (tCons (tVar 6) tNil))))))) (tRet (tC (.bl false))) tNext)
    (tSeq (tAsg (tVar 3) (gName 7))
    (tSeq (tIfS (tTest (tOp xLt (tCall (sp_sign_of K) [] E0 (tCons (tVar 3) tNil)) (tC (.int 0)))) (tAsg (tCall (sp_negate K) [] E0 (tCons (tVar 3) tNil)) (gName 7)) tNext)
    (tSeq (tIfS (tTest (tOp rNe (tCall (sp_power_remainder K a_NotAllowed) [] E0 (tCons (tVar 7) (tCons (tVar 6) tNil))) (tCall (sp_law_power K 13) [] E0 (tCons (tVar 7) (tCons (tVar 6) tNil))))) (tRet (tC (.bl false))) tNext)
    (tIfS (tTest (tOp rNe (tCall (sp_power_remainder K a_NotAllowed) [] E0 (tCons (tVar 7) (tCons (tVar 6) tNil))) (tCall (sp_law_remainder K 14) [] E0 (tCons (tTup (tCons (tTup (tCons (tC (.int 1)) (tCons (tVar 7) tNil))) tNil)) (tCons (tVar 6) tNil))))) (tRet (tC (.bl false))) tNext))))))))))))
    (tRet (tC (.bl true))))
theorem pure_law {K : PySem.W.Frag} {CN : Addr} {vs : List V} {H : Hp} {Q : VK} {E : XK} (h : sp_law K vs H Q E) : t_law K CN { nx := fun _ H' => Q .non H', rt := Q } (start ["script", "k", "numbers", "first", "second", "at", "m", "exponent"] vs) H := by
  obtain ⟨x, R, rfl, ⟨a, ns, rfl, hs, hn, rfl⟩, k⟩ := h
  have hlen : (ns.map V.int).length = ns.length := List.length_map _
  refine q_forR1 (n := if (if (4 : Int) < (((ns.map V.int).length : Nat) : Int) then 4 else (((ns.map V.int).length : Nat) : Int)) > 1 then (if (4 : Int) < (((ns.map V.int).length : Nat) : Int) then 4 else (((ns.map V.int).length : Nat) : Int)) else 1)
    (ea_cons (ev_max ev_c (ev_min (ev_len (ev_var rfl) hs) ev_c)) ea_nil) ⟨by rw [hlen]; split <;> (split <;> omega), by rw [hlen]; split <;> (split <;> omega)⟩
    (fun i σ H' => ∃ z1 z2 z3 z4 z5 z6 z7 : Option V, σ = [some (.ref a), z1, z2, z3, z4, z5, z6, z7] ∧ Ex H H') (fun H1 e1 => ⟨none, none, none, none, none, none, none, rfl, e1⟩) ?_ ?_
  · rintro i σ H' _ ⟨z1, z2, z3, z4, z5, z6, z7, rfl, e1⟩
    refine q_asgR (R := Drawn 50) (er_call3 (R1 := fun v _ => ∃ c : Int, v = .int c) (R2 := fun v _ => v = .int (i : Int)) (R3 := fun v _ => v = .int ((50 : Nat) : Int)) (er_call2 (R1 := fun v _ => v = .ref a) (R2 := fun v _ => v = .int (i : Int)) (er_is (ev_var rfl)) monoC (er_is (ev_var rfl)) monoC fun v w H2 e2 g1 g2 => ⟨a, ns, i, g1, ex_l (e1.trans e2) hs, g2, rfl⟩) (fun _ _ _ _ h => h) (er_is (ev_var rfl)) monoC (er_is ev_c) monoC
      fun v w u H2 e2 ⟨c, g1⟩ g2 g3 => ⟨c, i, 50, g1, g2, g3, by decide, rfl⟩) fun v H2 e2 hv => ?_
    obtain ⟨l, hl, hb, p, rfl, hpl⟩ := _root_.id hv
    have hat : ∀ i, i < 50 → 0 ≤ l.getD i 0 ∧ l.getD i 0 < 1000 := fun i hi => hb _ (getD_mem (by omega))
    have num : ∀ {σ : L2.St} {H1 : Hp} {te : TE} {kk : Int} (i : Nat), σ[2]? = some (some (.ref p)) → Ex H2 H1 → Ev te σ H1 (.int kk) → kk = (i : Int) → i < 50 → Ev (tCB xInt1 (tCons (tOp (rIxL K) (tVar 2) te) tNil)) σ H1 (.int (l.getD i 0)) :=
      fun i h0 e1 h1 h2 h3 => ev_int1 (ev_ints (ev_var h0) h1 h2 (sq_of (e1 p _ hpl)) (by omega))
    have great : ∀ {σ : L2.St} {H3 : Hp} {te : TE} {j : Nat} {d : Int}, σ[2]? = some (some (.ref p)) → Ex H2 H3 → Ev te σ H3 (.int d) → 1 ≤ d ∧ d ≤ 4 → ER (tCall (sp_law_great K 5) [] E0 (tCons (tVar 2) (tCons (tC (.int (j : Int))) (tCons te tNil)))) σ H3 (fun v H' => ∃ d n, d ≤ 4 ∧ Gr d n ∧ NumR K n v H') := fun {σ H3 te j d} g e hd hd4 =>
      (er_call3 (R1 := IntsL l) (R2 := fun v _ => v = .int (j : Int)) (R3 := fun v _ => v = .int ((d.toNat : Nat) : Int)) (er_var g fun H7 e7 => ⟨p, rfl, (e.trans e7) p _ hpl⟩) (intsL l) (er_is ev_c) monoC (er_is (ev_is hd (congrArg V.int (by omega)))) monoC fun v w u H7 e7 g1 g2 g3 => ⟨l, j, d.toNat, g1, by omega, by omega, hb, g2, g3, by omega, by omega, rfl⟩).imp fun v H7 e7 ⟨n, h1, h2⟩ => ⟨d.toNat, n, by omega, h1, h2⟩
    have h48 := hat 48 (by omega)
    have h47 := hat 47 (by omega)
    have h46 := hat 46 (by omega)
    refine q_asgR (great (j := 0) rfl (Ex.refl _) (ev_add ev_c (ev_mod (num 48 rfl (Ex.refl _) ev_c rfl (by omega)) ev_c (by decide))) (by omega)) fun fv H3 e3 ⟨d1, n1, hd1, hg1, hf⟩ => ?_
    refine q_asgR (great (j := 7) rfl e3 (ev_add ev_c (ev_mod (num 47 rfl e3 ev_c rfl (by omega)) ev_c (by decide))) (by omega)) fun sv H4 e4 ⟨d2, n2, hd2, hg2, hsv⟩ => ?_
    have f1 := gr_fits hd1 hg1
    have f2 := gr_fits hd2 hg2
    have s1 := sz_fits f1
    have hh1 := gr_height hg1
    have hw1 := s1.wt
    have e24 := e3.trans e4
    refine s_forR1 (n := 3) (ea_cons ev_c ea_nil) ⟨by decide, by decide⟩ (fun j σ H' => ∃ z5 z6 z7 : Option V, σ = [some (.ref a), some (.int (i : Int)), some (.ref p), some fv, some sv, z5, z6, z7] ∧ Ex H4 H') (fun H5 e5 => ⟨_, _, _, rfl, e5⟩) ?_ ?_
    · rintro j σ H5 hj ⟨z5, z6, z7, rfl, e5⟩
      have hj3 : j < 3 := by omega
      have e25 := e24.trans e5
      have h40 := hat (40 + j) (by omega)
      refine q_asg (ev_add ev_c (ev_mod (ev_mul (num (40 + j) rfl e25 (ev_add ev_c (ev_var rfl)) (by omega) (by omega)) (ev_add ev_c (ev_var rfl)) (.inl (by constructor <;> omega))) ev_c (by decide))) fun H6 e6 => ?_
      have e26 := e25.trans e6
      refine q_whenEJ (fun σ H' => ∃ m : Int, (1 ≤ m ∧ m ≤ 10000) ∧ σ = [some (.ref a), some (.int (i : Int)), some (.ref p), some fv, some sv, some (.int (j : Int)), some (.int m), z7] ∧ Ex H6 H') (P := fun _ => True) (etr_imp (etr_and (etr_eqAny (I := fun _ => True) (J := fun _ => True) (er_I (ev_var rfl) trivial) (er_c trivial)) fun _ => etr_eqAny (I := fun _ => True) (J := fun _ => True) (er_I (ev_mod (num 46 rfl e26 ev_c rfl (by omega)) ev_c (by decide)) trivial) (er_c trivial)) fun _ _ => trivial) ?_ (fun _ H7 e7 kk => ?_) (fun _ H7 e7 => ⟨_, by omega, rfl, e7⟩)
      case refine_2 =>
        exact s_asg (ev_sub ev_c (ev_mod (ev_mul (num (40 + j) rfl (e26.trans e7) (ev_add ev_c (ev_var rfl)) (by omega) (by omega)) ev_c (.inr (by decide))) ev_c (by decide))) fun H8 e8 => kk _ _ ⟨_, by omega, rfl, e7.trans e8⟩
      rintro σ H7 ⟨m, hm, rfl, e7⟩
      have e47 := e5.trans (e6.trans e7)
      have vf : ∀ {σ : L2.St} {H8 : Hp}, σ[3]? = some (some fv) → Ex H7 H8 → ER (tVar 3) σ H8 (NumR K n1) := fun h e => er_var' h (numR n1 _ _ _ (e4.trans (e47.trans e)) hf) (numR n1)
      have vs' : ∀ {σ : L2.St} {H8 : Hp}, σ[4]? = some (some sv) → Ex H7 H8 → ER (tVar 4) σ H8 (NumR K n2) := fun h e => er_var' h (numR n2 _ _ _ (e47.trans e) hsv) (numR n2)
      refine q_when (b := false || !true) (et_or (et_test (ev_is (ev_ne (ev_remN (vf rfl (Ex.refl _)) (ev_var rfl) (s1.mono (by decide) (by decide)) hm) (ev_er (er_call2 (R1 := NumR K n1) (R2 := fun v _ => v = .int m) (vf rfl (Ex.refl _)) (numR n1) (er_is (ev_var rfl)) monoC fun v w H8 e8 g1 g2 => ⟨n1, m, g1, by omega, by decide, g2, hm.1, hm.2, rfl⟩)) rfl) (by rw [decide_eq_true rfl]; rfl))) fun _ => et_not (et_B (ev_er (er_call3 (R1 := FtR K n1) (R2 := FtR K n2) (R3 := fun v _ => v = .int m) ((vf rfl (Ex.refl _)).imp fun v H8 e8 g => ⟨f1, g⟩) (ftR n1) ((vs' rfl (Ex.refl _)).imp fun v H8 e8 g => ⟨f2, g⟩) (ftR n2) (er_is (ev_var rfl)) monoC fun v w u H8 e8 g1 g2 g3 => ⟨n1, n2, m, g1, g2, g3, hm.1, hm.2, rfl⟩)))) (fun h => by cases h) fun _ H8 e8 => ?_
      refine q_asg (ev_var rfl) fun H9 e9 => ?_
      have e79 := e8.trans e9
      refine q_absJ (n := n1) rfl rfl (numR n1 _ _ _ (e4.trans (e47.trans e79)) hf) (by omega) fun w H10 e10 hw => ?_
      have e710 := e79.trans e10
      have sA : Sz (n1.natAbs : Int) 300 40 := by
        rcases abs_cases n1 with h | h
        · rw [h]; exact s1
        · rw [h]; exact s1.neg
      have hhA : (toT (n1.natAbs : Int)).height ≤ d1 + 5 := by
        refine ht_of fun x hx => ?_
        have : ∃ y ∈ naf n1 0, x.2 = y.2 := by
          rcases abs_cases n1 with h | h
          · rw [h] at hx; exact ⟨x, hx, rfl⟩
          · rw [h] at hx; exact naf_negM hx
        obtain ⟨y, hy, e⟩ := this
        rw [e]
        have := (place_mem hy).2
        omega
      have vw : ∀ {σ : L2.St} {H11 : Hp}, σ[7]? = some (some w) → Ex H10 H11 → ER (tVar 7) σ H11 (NumR K (n1.natAbs : Int)) := fun h e => er_var' h (hw.ex e) (numR _)
      refine q_when (b := false) (et_test (ev_is (ev_ne (ev_powRemN (vw rfl (Ex.refl _)) (ev_var rfl) (sA.mono (by decide) (by decide)) hm) (ev_er (er_call2 (R1 := NumR K (n1.natAbs : Int)) (R2 := fun v _ => v = .int m) (vw rfl (Ex.refl _)) (numR _) (er_is (ev_var rfl)) monoC fun v w H8 e8 g1 g2 => ⟨n1.natAbs, m, g1, by omega, by decide, g2, hm.1, hm.2, rfl⟩)) rfl) (by rw [decide_eq_true rfl]; rfl))) (fun h => by cases h) fun _ H11 e11 => ?_
      have hp1 : ER (tTup (tCons (tTup (tCons (tC (.int 1)) (tCons (tVar 7) tNil))) tNil)) [some (.ref a), some (.int (i : Int)), some (.ref p), some fv, some sv, some (.int (j : Int)), some (.int m), some w] H11 (NumR K (2 ^ n1.natAbs)) := by
        have h1 : ER (tTup (tCons (tC (.int 1)) (tCons (tVar 7) tNil))) [some (.ref a), some (.int (i : Int)), some (.ref p), some fv, some sv, some (.int (j : Int)), some (.int m), some w] H11 (fun v H2 => ∃ p w, v = .ref p ∧ SqT K H2 p [.int 1, w] ∧ NumR K (n1.natAbs : Int) w H2) :=
          (er_tup (ea_two (er_is ev_c) monoC (vw rfl e11) (numR _)) (fun vs Ha Hb e ⟨v, w, g1, g2, g3⟩ => ⟨v, w, g1, g2, numR _ _ _ _ e g3⟩) fun vs H2 ⟨v, w, g1, _⟩ => by rw [g1]; show 2 ≤ 100000; omega).imp fun v H2 e ⟨p, vs, g1, g2, u, w, g3, g4, g5⟩ => ⟨p, w, g1, st_of (by rw [g2, g3, g4]), g5⟩
        refine (er_tup (ea_one h1 fun v Ha Hb e ⟨p, w, g1, g2, g3⟩ => ⟨p, w, g1, ex_t e g2, numR _ _ _ _ e g3⟩) (fun vs Ha Hb e ⟨v, g0, p, w, g1, g2, g3⟩ => ⟨v, g0, p, w, g1, ex_t e g2, numR _ _ _ _ e g3⟩) fun vs H2 ⟨v, g1, _⟩ => by rw [g1]; show 1 ≤ 100000; omega).imp fun v H2 e ⟨q, vs, g1, g2, u, g3, p, w, g4, g5, g6⟩ => ?_
        unfold NumR
        rw [toT_pow2, g1]
        exact NumV.mk (st_of (by rw [g2, g3, g4])) (TermsV.cons g5 g6 TermsV.nil)
      refine s_when (b := false) (et_test (ev_is (ev_ne (ev_powRemN (vw rfl e11) (ev_var rfl) (sA.mono (by decide) (by decide)) hm) (ev_er (er_call2 (R1 := NumR K (2 ^ n1.natAbs)) (R2 := fun v _ => v = .int m) hp1 (numR _) (er_is (ev_var rfl)) monoC fun v w H8 e8 g1 g2 => ⟨_, m, g1, by rw [toT_pow2]; show max ((toT (n1.natAbs : Int)).height + 1) 0 < 14; omega, by decide, g2, hm.1, hm.2, rfl⟩)) rfl) (by rw [decide_eq_true rfl]; rfl))) (fun h => by cases h) fun _ H12 e12 => ⟨_, _, _, rfl, e47.trans (e710.trans (e11.trans e12))⟩
    · rintro σ H5 ⟨z5, z6, z7, rfl, e5⟩
      exact ⟨_, _, _, _, _, _, _, rfl, e1.trans (e2.trans (e24.trans e5))⟩
  · rintro σ H' ⟨z1, z2, z3, z4, z5, z6, z7, rfl, e1⟩
    exact s_ret ev_c fun H5 e5 => k _ _ (e1.trans e5) rfl
end Sk

namespace Sk
open PySem PySem.Spec PyProof.Rows L2 Evl
def top (i : Nat) : Stmt := PySem.Challenge.pw_sandreckoner_k16_remainders_of_great_num.main.body.getD i (.Pass ⟨0, 0, 0, 0⟩)
section
variable {P : Program} {w : World} {K : PySem.W.Frag} {mg : Str → Option Value} {base : Heap}
abbrev s_c_ReckonError : Stmt := inClass (top 1) 0
theorem sc_c_ReckonError : FnScope ["self", "why", "word"] ["self", "why", "word"] (defScope s_c_ReckonError) := ⟨rfl, rfl, rfl, by decide +kernel, rfl, by decide +kernel, by decide +kernel⟩
theorem ok_c_ReckonError {f : Addr} {fd : FuncData} {dvs : List V} (F : FunD K "__init__" "ReckonError.__init__" (defArgs s_c_ReckonError) (defBody s_c_ReckonError) (defScope s_c_ReckonError) dvs [] f fd) (bV : mg "ValueError" = none) (vV : PySem.W.findCls K (.type "ValueError") (.type "type") "__init__" = some (.val (.builtin "ValueError.__init__"))) : FnOk P w K mg base CX0 1 f fd ["self", "why", "word"] (sp_rinit K) := by
  refine F.ok (k := 0) sc_c_ReckonError (fun vs H Q E h => by obtain ⟨a, C, u, w, rfl, _⟩ := h; rfl) (fun cdv A outer s H vs Q E hr h => ⟨t_rinit K, ?_, pure_rinit h⟩)
  exact (pss_cons (ps_expr (pe_veinit (by rfl) bV vV (pa_cons (pv 0) (pa_cons (pv 1) pa_nil)))) (pss_one (ps_ost (pv 0) (pv 2))))
abbrev s_c_NotAllowed : Stmt := inClass (top 2) 0
theorem sc_c_NotAllowed : FnScope ["self", "why"] ["self", "why"] (defScope s_c_NotAllowed) := ⟨rfl, rfl, rfl, by decide +kernel, rfl, by decide +kernel, by decide +kernel⟩
theorem ok_c_NotAllowed {f fR aR : Addr} {fd fdR : FuncData} {dvs : List V} (F : FunD K "__init__" "NotAllowed.__init__" (defArgs s_c_NotAllowed) (defBody s_c_NotAllowed) (defScope s_c_NotAllowed) dvs [] f fd) (mR : mg "ReckonError" = some (.ref aR)) (r : ClX.CRead K aR (.type "type")) (c : ClX.CVal K aR (.type "type") "__init__" (.ref fR) (.ref fR)) (kp : PySem.W.keepIn K (.ref fR) = true) (G : FnOk P w K mg base CX0 1 fR fdR ["self", "why", "word"] (sp_rinit K)) (b : Binds K fdR ["self", "why", "word"] []) : FnOk P w K mg base CX0 2 f fd ["self", "why"] (sp_cinit K (wordOf "NotAllowed")) := by
  refine F.ok (k := 1) sc_c_NotAllowed (fun vs H Q E h => by obtain ⟨a, C, u, rfl, _⟩ := h; rfl) (fun cdv A outer s H vs Q E hr h => ⟨t_cinit K aR (wordOf "NotAllowed"), ?_, pure_cinit h⟩)
  exact (pss_one (ps_expr (pe_cfn (by rfl) mR r c kp G hr b pass0 (pa_cons (pv 0) (pa_cons (pv 1) (pa_cons pe_str pa_nil))))))
abbrev s_c_TooLarge : Stmt := inClass (top 3) 0
theorem sc_c_TooLarge : FnScope ["self", "why"] ["self", "why"] (defScope s_c_TooLarge) := ⟨rfl, rfl, rfl, by decide +kernel, rfl, by decide +kernel, by decide +kernel⟩
theorem ok_c_TooLarge {f fR aR : Addr} {fd fdR : FuncData} {dvs : List V} (F : FunD K "__init__" "TooLarge.__init__" (defArgs s_c_TooLarge) (defBody s_c_TooLarge) (defScope s_c_TooLarge) dvs [] f fd) (mR : mg "ReckonError" = some (.ref aR)) (r : ClX.CRead K aR (.type "type")) (c : ClX.CVal K aR (.type "type") "__init__" (.ref fR) (.ref fR)) (kp : PySem.W.keepIn K (.ref fR) = true) (G : FnOk P w K mg base CX0 1 fR fdR ["self", "why", "word"] (sp_rinit K)) (b : Binds K fdR ["self", "why", "word"] []) : FnOk P w K mg base CX0 2 f fd ["self", "why"] (sp_cinit K (wordOf "TooLarge")) := by
  refine F.ok (k := 1) sc_c_TooLarge (fun vs H Q E h => by obtain ⟨a, C, u, rfl, _⟩ := h; rfl) (fun cdv A outer s H vs Q E hr h => ⟨t_cinit K aR (wordOf "TooLarge"), ?_, pure_cinit h⟩)
  exact (pss_one (ps_expr (pe_cfn (by rfl) mR r c kp G hr b pass0 (pa_cons (pv 0) (pa_cons (pv 1) (pa_cons pe_str pa_nil))))))
abbrev s_signed_places : Stmt := top 7
abbrev N_signed_places : List Str := ["value", "found", "place", "zeros", "sign"]
theorem sc_signed_places : FnScope N_signed_places ["value"] (defScope s_signed_places) := ⟨rfl, rfl, rfl, by decide +kernel, rfl, by decide +kernel, by decide +kernel⟩
abbrev s_bare_number : Stmt := top 8
abbrev N_bare_number : List Str := ["value", "sign", "place"]
theorem sc_bare_number : FnScope N_bare_number ["value"] (defScope s_bare_number) := ⟨rfl, rfl, rfl, by decide +kernel, rfl, by decide +kernel, by decide +kernel⟩
abbrev s_value_within : Stmt := top 9
abbrev N_value_within : List Str := ["number", "bits", "total", "sign", "exponent", "place"]
theorem sc_value_within : FnScope N_value_within ["number", "bits"] (defScope s_value_within) := ⟨rfl, rfl, rfl, by decide +kernel, rfl, by decide +kernel, by decide +kernel⟩
abbrev s_plus_small : Stmt := top 10
abbrev N_plus_small : List Str := ["number", "value", "keep", "reach", "place", "sign", "exponent"]
theorem sc_plus_small : FnScope N_plus_small ["number", "value"] (defScope s_plus_small) := ⟨rfl, rfl, rfl, by decide +kernel, rfl, by decide +kernel, by decide +kernel⟩
abbrev s_order : Stmt := top 15
abbrev N_order : List Str := ["first", "second", "turn", "left", "right", "sign", "other"]
theorem sc_order : FnScope N_order ["first", "second"] (defScope s_order) := ⟨rfl, rfl, rfl, by decide +kernel, rfl, by decide +kernel, by decide +kernel⟩
abbrev s_gap : Stmt := top 16
abbrev N_gap : List Str := ["first", "second", "same", "upper", "lower", "bits", "high", "low", "left", "right"]
theorem sc_gap : FnScope N_gap ["first", "second"] (defScope s_gap) := ⟨rfl, rfl, rfl, by decide +kernel, rfl, by decide +kernel, by decide +kernel⟩
abbrev s_terms_at : Stmt := top 17
abbrev N_terms_at : List Str := ["base", "value", "sign", "place"]
theorem sc_terms_at : FnScope N_terms_at ["base", "value"] (defScope s_terms_at) := ⟨rfl, rfl, rfl, by decide +kernel, rfl, by decide +kernel, by decide +kernel⟩
abbrev s_settled : Stmt := top 18
abbrev N_settled : List Str := ["row", "many", "found", "at", "value", "base", "step"]
theorem sc_settled : FnScope N_settled ["row", "many"] (defScope s_settled) := ⟨rfl, rfl, rfl, by decide +kernel, rfl, by decide +kernel, by decide +kernel⟩
abbrev s_plus : Stmt := top 19
abbrev N_plus : List Str := ["first", "second", "value", "row", "at", "other", "rest"]
theorem sc_plus : FnScope N_plus ["first", "second"] (defScope s_plus) := ⟨rfl, rfl, rfl, by decide +kernel, rfl, by decide +kernel, by decide +kernel⟩
abbrev s_index_in : Stmt := top 20
abbrev N_index_in : List Str := ["row", "exponent", "begin", "end", "middle"]
theorem sc_index_in : FnScope N_index_in ["row", "exponent"] (defScope s_index_in) := ⟨rfl, rfl, rfl, by decide +kernel, rfl, by decide +kernel, by decide +kernel⟩
abbrev s_bare_sum : Stmt := top 21
abbrev N_bare_sum : List Str := ["terms", "total", "row", "sign", "exponent", "place", "at"]
theorem sc_bare_sum : FnScope N_bare_sum ["terms"] (defScope s_bare_sum) := ⟨rfl, rfl, rfl, by decide +kernel, rfl, by decide +kernel, by decide +kernel⟩
abbrev s_bare_shift : Stmt := top 22
abbrev N_bare_shift : List Str := ["terms", "places", "value", "sign", "exponent"]
theorem sc_bare_shift : FnScope N_bare_shift ["terms", "places"] (defScope s_bare_shift) := ⟨rfl, rfl, rfl, by decide +kernel, rfl, by decide +kernel, by decide +kernel⟩
abbrev s_levels : Stmt := top 27
abbrev N_levels : List Str := ["number", "rows", "row", "item", "_", "exponent"]
theorem sc_levels : FnScope N_levels ["number"] (defScope s_levels) := ⟨rfl, rfl, rfl, by decide +kernel, rfl, by decide +kernel, by decide +kernel⟩
abbrev s_is_allowed : Stmt := top 28
abbrev N_is_allowed : List Str := ["number", "rows", "row"]
theorem sc_is_allowed : FnScope N_is_allowed ["number"] (defScope s_is_allowed) := ⟨rfl, rfl, rfl, by decide +kernel, rfl, by decide +kernel, by decide +kernel⟩
abbrev s_allowed : Stmt := top 29
abbrev N_allowed : List Str := ["number"]
theorem sc_allowed : FnScope N_allowed ["number"] (defScope s_allowed) := ⟨rfl, rfl, rfl, by decide +kernel, rfl, by decide +kernel, by decide +kernel⟩
abbrev s_sign_of : Stmt := top 30
abbrev N_sign_of : List Str := ["number"]
theorem sc_sign_of : FnScope N_sign_of ["number"] (defScope s_sign_of) := ⟨rfl, rfl, rfl, by decide +kernel, rfl, by decide +kernel, by decide +kernel⟩
abbrev s_of_int : Stmt := top 31
abbrev N_of_int : List Str := ["value"]
theorem sc_of_int : FnScope N_of_int ["value"] (defScope s_of_int) := ⟨rfl, rfl, rfl, by decide +kernel, rfl, by decide +kernel, by decide +kernel⟩
abbrev s_check_modulus : Stmt := top 34
abbrev N_check_modulus : List Str := ["m"]
theorem sc_check_modulus : FnScope N_check_modulus ["m"] (defScope s_check_modulus) := ⟨rfl, rfl, rfl, by decide +kernel, rfl, by decide +kernel, by decide +kernel⟩
abbrev s_power_row : Stmt := top 35
abbrev N_power_row : List Str := ["m", "powers", "places", "power"]
theorem sc_power_row : FnScope N_power_row ["m"] (defScope s_power_row) := ⟨rfl, rfl, rfl, by decide +kernel, rfl, by decide +kernel, by decide +kernel⟩
abbrev s_power_rows : Stmt := top 36
abbrev N_power_rows : List Str := ["m", "rows", "powers", "lead"]
theorem sc_power_rows : FnScope N_power_rows ["m"] (defScope s_power_rows) := ⟨rfl, rfl, rfl, by decide +kernel, rfl, by decide +kernel, by decide +kernel⟩
abbrev s_power_by_rows : Stmt := top 38
abbrev N_power_by_rows : List Str := ["exponent", "rows", "at", "place", "turns", "_", "powers", "lead"]
theorem sc_power_by_rows : FnScope N_power_by_rows ["exponent", "rows", "at"] (defScope s_power_by_rows) := ⟨rfl, rfl, rfl, by decide +kernel, rfl, by decide +kernel, by decide +kernel⟩
abbrev s_number_by_rows : Stmt := top 37
abbrev N_number_by_rows : List Str := ["x", "rows", "at", "sign", "exponent"]
theorem sc_number_by_rows : FnScope N_number_by_rows ["x", "rows", "at"] (defScope s_number_by_rows) := ⟨rfl, rfl, rfl, by decide +kernel, rfl, by decide +kernel, by decide +kernel⟩
abbrev s_remainder : Stmt := top 39
abbrev N_remainder : List Str := ["x", "m"]
theorem sc_remainder : FnScope N_remainder ["x", "m"] (defScope s_remainder) := ⟨rfl, rfl, rfl, by decide +kernel, rfl, by decide +kernel, by decide +kernel⟩
abbrev s_power_remainder : Stmt := top 40
abbrev N_power_remainder : List Str := ["exponent", "m"]
theorem sc_power_remainder : FnScope N_power_remainder ["exponent", "m"] (defScope s_power_remainder) := ⟨rfl, rfl, rfl, by decide +kernel, rfl, by decide +kernel, by decide +kernel⟩
abbrev s_multiply : Stmt := top 43
abbrev N_multiply : List Str := ["first", "second", "sign", "exponent", "other", "place"]
theorem sc_multiply : FnScope N_multiply ["first", "second"] (defScope s_multiply) := ⟨rfl, rfl, rfl, by decide +kernel, rfl, by decide +kernel, by decide +kernel⟩
abbrev s_negate : Stmt := top 46
abbrev N_negate : List Str := ["number", "sign", "exponent"]
theorem sc_negate : FnScope N_negate ["number"] (defScope s_negate) := ⟨rfl, rfl, rfl, by decide +kernel, rfl, by decide +kernel, by decide +kernel⟩
abbrev s_add : Stmt := top 47
abbrev N_add : List Str := ["first", "second"]
theorem sc_add : FnScope N_add ["first", "second"] (defScope s_add) := ⟨rfl, rfl, rfl, by decide +kernel, rfl, by decide +kernel, by decide +kernel⟩
abbrev s_subtract : Stmt := top 48
abbrev N_subtract : List Str := ["first", "second"]
theorem sc_subtract : FnScope N_subtract ["first", "second"] (defScope s_subtract) := ⟨rfl, rfl, rfl, by decide +kernel, rfl, by decide +kernel, by decide +kernel⟩
abbrev s_sum_terms : Stmt := top 49
abbrev N_sum_terms : List Str := ["terms", "sign", "exponent"]
theorem sc_sum_terms : FnScope N_sum_terms ["terms"] (defScope s_sum_terms) := ⟨rfl, rfl, rfl, by decide +kernel, rfl, by decide +kernel, by decide +kernel⟩
abbrev s_law_cell : Stmt := top 51
abbrev N_law_cell : List Str := ["script", "k"]
theorem sc_law_cell : FnScope N_law_cell ["script", "k"] (defScope s_law_cell) := ⟨rfl, rfl, rfl, by decide +kernel, rfl, by decide +kernel, by decide +kernel⟩
abbrev s_law_numbers : Stmt := top 52
abbrev N_law_numbers : List Str := ["cell", "k", "many", "numbers", "mixed", "j", "rest", "twice"]
theorem sc_law_numbers : FnScope N_law_numbers ["cell", "k", "many"] (defScope s_law_numbers) := ⟨rfl, rfl, rfl, by decide +kernel, rfl, by decide +kernel, by decide +kernel⟩
abbrev s_law_great : Stmt := top 53
abbrev N_law_great : List Str := ["numbers", "at", "depth", "pick", "terms", "k", "exponent"]
theorem sc_law_great : FnScope N_law_great ["numbers", "at", "depth"] (defScope s_law_great) := ⟨rfl, rfl, rfl, by decide +kernel, rfl, by decide +kernel, by decide +kernel⟩
abbrev s_law_small : Stmt := top 54
abbrev N_law_small : List Str := ["number", "total", "sign", "exponent", "place"]
theorem sc_law_small : FnScope N_law_small ["number"] (defScope s_law_small) := ⟨rfl, rfl, rfl, by decide +kernel, rfl, by decide +kernel, by decide +kernel⟩
abbrev s_law_remainder : Stmt := top 56
abbrev N_law_remainder : List Str := ["number", "m", "total", "sign", "exponent"]
theorem sc_law_remainder : FnScope N_law_remainder ["number", "m"] (defScope s_law_remainder) := ⟨rfl, rfl, rfl, by decide +kernel, rfl, by decide +kernel, by decide +kernel⟩
abbrev s_law_power : Stmt := top 55
abbrev N_law_power : List Str := ["exponent", "m", "seen", "row", "power", "k", "lead", "period", "small"]
theorem sc_law_power : FnScope N_law_power ["exponent", "m"] (defScope s_law_power) := ⟨rfl, rfl, rfl, by decide +kernel, rfl, by decide +kernel, by decide +kernel⟩
abbrev s_law_pair : Stmt := top 57
abbrev N_law_pair : List Str := ["first", "second", "m", "one", "other"]
theorem sc_law_pair : FnScope N_law_pair ["first", "second", "m"] (defScope s_law_pair) := ⟨rfl, rfl, rfl, by decide +kernel, rfl, by decide +kernel, by decide +kernel⟩
abbrev s_law : Stmt := top 58
abbrev N_law : List Str := ["script", "k", "numbers", "first", "second", "at", "m", "exponent"]
theorem sc_law : FnScope N_law ["script"] (defScope s_law) := ⟨rfl, rfl, rfl, by decide +kernel, rfl, by decide +kernel, by decide +kernel⟩
theorem ok_signed_places {f : Addr} {fd : FuncData} {k : Nat} (D : DefAt K mg "signed_places" s_signed_places ["value"] f fd) : FnOk P w K mg base CX0 (k + 1) f fd ["value"] (sp_signed_places K) := by
  have nd := sc_signed_places.nd
  refine D.fn.ok sc_signed_places (fun vs H Q E h => spF1.len h) (fun cdv A outer s H vs Q E hr h => ⟨t_signed_places K, ?_, pure_signed_places h⟩)
  exact (pss_cons (ps_set (i := 1) nd rfl (.inl rfl) (pe_lst pa_nil))
      (pss_cons (ps_set (i := 2) nd rfl (.inl rfl) pe_int)
      (pss_cons (ps_while PassesOwn.never (pt_cmpR op_ne (pv 0) pe_int (nomark _)) (pss_cons (ps_set (i := 3) nd rfl (.inl rfl) (pe_op op_sub (pe_bits (pe_op op_low (pv 0) (pe_un un_neg (pv 0)))) pe_int))
      (pss_cons (ps_aug (i := 2) nd rfl (.inl rfl) (pv 3) ip_add)
      (pss_cons (ps_aug (i := 0) nd rfl (.inl rfl) (pv 3) ip_shr)
      (pss_cons (ps_set (i := 4) nd rfl (.inl rfl) (pe_op op_sub pe_int (pe_op op_andM (pv 0) pe_int)))
      (pss_cons (ps_expr (pe_bm PySem.F.plainAttrs_list PySem.F.slot_list_append PySem.F.type_list_append mt_append (pv 1) (pa_cons (pe_tup (pa_cons (pv 4) (pa_cons (pv 2) pa_nil))) pa_nil)))
      (pss_one (ps_aug (i := 0) nd rfl (.inl rfl) (pv 4) ip_sub))))))))
      (pss_one (ps_ret (pv 1))))))
theorem ok_bare_number {f : Addr} {fd : FuncData} {k : Nat} {d : Nat} (D : DefAt K mg "bare_number" s_bare_number ["value"] f fd) {f_signed_places : Addr} {fd_signed_places : FuncData} {k_signed_places : Nat} (D_signed_places : DefAt K mg "signed_places" s_signed_places ["value"] f_signed_places fd_signed_places) (G_signed_places : FnOk P w K mg base CX0 k_signed_places f_signed_places fd_signed_places ["value"] (sp_signed_places K)) (hk_signed_places : k_signed_places ≤ k) (b_tuple : mg "tuple" = none) {t_FIRST_END : Tok} (m_FIRST_END : mg "FIRST_END" = some (.int 8 t_FIRST_END)) {a_FIRST_NUMBERS : Addr} (m_FIRST_NUMBERS : mg "FIRST_NUMBERS" = some (.ref a_FIRST_NUMBERS)) (d_FIRST_NUMBERS : FirstAt K a_FIRST_NUMBERS) (G_bare_number : FnOk P w K mg base CX0 k f fd ["value"] (sp_bare_number K d)) : FnOk P w K mg base CX0 (k + 1) f fd ["value"] (sp_bare_number K (d + 1)) := by
  have D_bare_number := D
  have nd := sc_bare_number.nd
  refine D.fn.ok sc_bare_number (fun vs H Q E h => spF1.len h) (fun cdv A outer s H vs Q E hr h => ⟨t_bare_number K a_FIRST_NUMBERS d, ?_, pure_bare_number d_FIRST_NUMBERS h⟩)
  exact (pss_cons (ps_if (pt_chain op_le op_lt pe_int (pv 0) (pe_glob rfl m_FIRST_END ⟨_, rfl⟩)) (pss_one (ps_ret (pe_ix ix_tup (pe_glob rfl m_FIRST_NUMBERS rfl) (pv 0) (fun _ _ => rfl)))) pss_nil)
      (pss_one (ps_ret (pe_tupleOf rfl b_tuple (pe_lc (own := [("sign", 1), ("place", 2)]) (g := (gTup K 2 (gCons (gName 1) (gCons (gName 2) gNil)))) (tt := tYes) (te := (tTup (tCons (tVar 1) (tCons (tCall (sp_bare_number K d) [] E0 (tCons (tVar 2) tNil)) tNil)))) rfl nd (pi_list (pe_revL (pe_call G_signed_places (hr.mono hk_signed_places) rfl D_signed_places.m D_signed_places.fn.kp D_signed_places.b .nil pass0 (pa_cons (pv 0) pa_nil)))) (blkOk_by (own := [("sign", 1), ("place", 2)]) (N := N_bare_number) (sc := defScope s_bare_number) (by decide +kernel)) (fun _ _ _ _ _ => (pg_tup rfl (pgs_cons (pg_name (i := 1) nd rfl (.inl rfl)) (pgs_cons (pg_name (i := 2) nd rfl (.inl rfl)) pgs_nil)))) (fun _ _ _ _ _ => pts_nil) (fun _ _ _ _ _ => (pe_tup (pa_cons (pv 1) (pa_cons (pe_call G_bare_number hr rfl D_bare_number.m D_bare_number.fn.kp D_bare_number.b .nil pass0 (pa_cons (pv 2) pa_nil)) pa_nil)))))))))
theorem ok_value_within {f : Addr} {fd : FuncData} {k : Nat} {d : Nat} (D : DefAt K mg "value_within" s_value_within ["number", "bits"] f fd) {t_FIRST_END : Tok} (m_FIRST_END : mg "FIRST_END" = some (.int 8 t_FIRST_END)) {a_FIRST_NUMBERS : Addr} (m_FIRST_NUMBERS : mg "FIRST_NUMBERS" = some (.ref a_FIRST_NUMBERS)) (d_FIRST_NUMBERS : FirstAt K a_FIRST_NUMBERS) (G_value_within : FnOk P w K mg base CX0 k f fd ["number", "bits"] (sp_value_within K d)) : FnOk P w K mg base CX0 (k + 1) f fd ["number", "bits"] (sp_value_within K (d + 1)) := by
  have D_value_within := D
  have nd := sc_value_within.nd
  refine D.fn.ok sc_value_within (fun vs H Q E h => spF2.len h) (fun cdv A outer s H vs Q E hr h => ⟨t_value_within K a_FIRST_NUMBERS d, ?_, pure_value_within d_FIRST_NUMBERS h⟩)
  exact (pss_cons (ps_set (i := 2) nd rfl (.inl rfl) pe_int)
      (pss_cons (ps_for PassesOwn.never rfl (pi_tup (pv 0)) (pg_tup rfl (pgs_cons (pg_name (i := 3) nd rfl (.inl rfl)) (pgs_cons (pg_name (i := 4) nd rfl (.inl rfl)) pgs_nil))) (pss_cons (ps_if (pt_cmpR op_ge (pv 1) (pe_glob rfl m_FIRST_END ⟨_, rfl⟩) (nomark _)) (pss_one (ps_set (i := 5) nd rfl (.inl rfl) (pe_call G_value_within hr rfl D_value_within.m D_value_within.fn.kp D_value_within.b .nil pass0 (pa_cons (pv 4) (pa_cons (pe_bits (pv 1)) pa_nil))))) (pss_one (ps_if (pt_cmpR (op_inN (hu150 hr)) (pv 4) (pe_glob rfl m_FIRST_NUMBERS rfl) (by rfl)) (pss_one (ps_set (i := 5) nd rfl (.inl rfl) (pe_bm PySem.F.plainAttrs_tuple PySem.F.slot_tuple_index PySem.F.type_tuple_index (mt_indexN (hu150 hr)) (pe_glob rfl m_FIRST_NUMBERS rfl) (pa_cons (pv 4) pa_nil)))) (pss_one (ps_ret pe_non)))))
      (pss_cons (ps_if (PW.pt (pw_or (pt_cmpR op_isN (pv 5) pe_non (nomark _)) (pw_or1 (pt_cmpR op_gt (pv 5) (pv 1) (nomark _))))) (pss_one (ps_ret pe_non)) pss_nil)
      (pss_one (ps_aug (i := 2) nd rfl (.inl rfl) (pe_op op_shl (pv 3) (pv 5)) ip_add)))))
      (pss_one (ps_ret (pv 2)))))
theorem ok_plus_small {f : Addr} {fd : FuncData} {k : Nat} (D : DefAt K mg "plus_small" s_plus_small ["number", "value"] f fd) {f_value_within : Addr} {fd_value_within : FuncData} {k_value_within : Nat} (D_value_within : DefAt K mg "value_within" s_value_within ["number", "bits"] f_value_within fd_value_within) (G_value_within : FnOk P w K mg base CX0 k_value_within f_value_within fd_value_within ["number", "bits"] (sp_value_within K 45)) (hk_value_within : k_value_within ≤ k) {f_bare_number : Addr} {fd_bare_number : FuncData} {k_bare_number : Nat} (D_bare_number : DefAt K mg "bare_number" s_bare_number ["value"] f_bare_number fd_bare_number) (G_bare_number : FnOk P w K mg base CX0 k_bare_number f_bare_number fd_bare_number ["value"] (sp_bare_number K 7)) (hk_bare_number : k_bare_number ≤ k) (b_len : mg "len" = none) : FnOk P w K mg base CX0 (k + 1) f fd ["number", "value"] (sp_plus_small K) := by
  have nd := sc_plus_small.nd
  refine D.fn.ok sc_plus_small (fun vs H Q E h => spF2.len h) (fun cdv A outer s H vs Q E hr h => ⟨t_plus_small K, ?_, pure_plus_small h⟩)
  exact (pss_cons (ps_if (pt_cmpR op_eq (pv 1) pe_int (nomark _)) (pss_one (ps_ret (pv 0))) pss_nil)
      (pss_cons (ps_set (i := 2) nd rfl (.inl rfl) (pe_callB call_len_seq (by rfl) b_len PySem.boot_len (pa_cons (pv 0) pa_nil)))
      (pss_cons (ps_while PassesOwn.never (pt_cmpR op_gt (pv 2) pe_int (nomark _)) (pss_cons (ps_asg (pe_ix ix_tup (pv 0) (pe_op op_sub (pv 2) pe_int) (fun _ _ => rfl)) (pg_tup rfl (pgs_cons (pg_name (i := 5) nd rfl (.inl rfl)) (pgs_cons (pg_name (i := 6) nd rfl (.inl rfl)) pgs_nil))))
      (pss_cons (ps_set (i := 3) nd rfl (.inl rfl) (pe_op op_add (pe_bits (pv 1)) pe_int))
      (pss_cons (ps_set (i := 4) nd rfl (.inl rfl) (pe_call G_value_within (hr.mono hk_value_within) rfl D_value_within.m D_value_within.fn.kp D_value_within.b .nil pass0 (pa_cons (pv 6) (pa_cons (pe_bits (pv 3)) pa_nil))))
      (pss_cons (ps_if (PW.pt (pw_or (pt_cmpR op_isN (pv 4) pe_non (nomark _)) (pw_or1 (pt_cmpR op_gt (pv 4) (pv 3) (nomark _))))) (pss_one ps_break) pss_nil)
      (pss_cons (ps_aug (i := 1) nd rfl (.inl rfl) (pe_op op_shl (pv 5) (pv 4)) ip_add)
      (pss_one (ps_aug (i := 2) nd rfl (.inl rfl) pe_int ip_sub))))))))
      (pss_one (ps_ret (pe_op op_catA (pe_slice sl_tupA (pv 0) po_none (po_some (pv 2))) (pe_call G_bare_number (hr.mono hk_bare_number) rfl D_bare_number.m D_bare_number.fn.kp D_bare_number.b .nil pass0 (pa_cons (pv 1) pa_nil))))))))
theorem ok_order {f : Addr} {fd : FuncData} {k : Nat} (D : DefAt K mg "order" s_order ["first", "second"] f fd) (b_zip : mg "zip" = none) (b_len : mg "len" = none) : FnOk P w K mg base CX0 (k + 1) f fd ["first", "second"] (sp_order K) := by
  have nd := sc_order.nd
  refine D.fn.ok sc_order (fun vs H Q E h => spF2.len h) (fun cdv A outer s H vs Q E hr h => ⟨t_order K, ?_, pure_order h⟩)
  exact (pss_cons (ps_if (pt_cmpR (op_eqN (hu150 hr)) (pv 0) (pv 1) (nomark _)) (pss_one (ps_ret pe_int)) pss_nil)
      (pss_cons (ps_set (i := 2) nd rfl (.inl rfl) pe_int)
      (pss_cons (ps_while PassesOwn.never (PW.pt (pw_and (pt_truth (pv 0) (by intro _; rfl)) (pw_and1 (pt_truth (pv 1) (by intro _; rfl))))) (pss_cons (ps_forE PassesOwn.never rfl (RZ.pi_zipA (by rfl) b_zip (pa_cons (pv 0) (pa_cons (pv 1) pa_nil))) (pg_tup rfl (pgs_cons (pg_name (i := 3) nd rfl (.inl rfl)) (pgs_cons (pg_name (i := 4) nd rfl (.inl rfl)) pgs_nil))) (pss_one (ps_if (pt_cmpR (op_neN (hu150 hr)) (pv 3) (pv 4) (nomark _)) (pss_one ps_break) pss_nil)) (pss_cons (ps_par (by rfl) nd rfl rfl (by decide) rfl rfl (pa_cons (pe_slice sl_tupA (pv 0) (po_some (pe_callB call_len_seq (by rfl) b_len PySem.boot_len (pa_cons (pv 1) pa_nil))) po_none) (pa_cons (pe_slice sl_tupA (pv 1) (po_some (pe_callB call_len_seq (by rfl) b_len PySem.boot_len (pa_cons (pv 0) pa_nil))) po_none) pa_nil)) (by rfl))
      (pss_one ps_break)))
      (pss_cons (ps_asg (pv 3) (pg_tup rfl (pgs_cons (pg_name (i := 5) nd rfl (.inl rfl)) (pgs_cons (pg_name (i := 0) nd rfl (.inl rfl)) pgs_nil))))
      (pss_cons (ps_asg (pv 4) (pg_tup rfl (pgs_cons (pg_name (i := 6) nd rfl (.inl rfl)) (pgs_cons (pg_name (i := 1) nd rfl (.inl rfl)) pgs_nil))))
      (pss_cons (ps_if (pt_cmpR op_ne (pv 5) (pv 6) (nomark _)) (pss_one (ps_ret (pe_op op_mul (pv 2) (pv 5)))) pss_nil)
      (pss_one (ps_aug (i := 2) nd rfl (.inl rfl) (pv 5) ip_mul)))))))
      (pss_one (ps_ret (pe_ifExp (pt_truth (pv 0) (by intro _; rfl)) (pe_op op_mul (pv 2) (pe_ix ix_tup (pe_ix ix_tup (pv 0) pe_int (fun _ _ => rfl)) pe_int (fun _ _ => rfl))) (pe_op op_mul (pe_un un_neg (pv 2)) (pe_ix ix_tup (pe_ix ix_tup (pv 1) pe_int (fun _ _ => rfl)) pe_int (fun _ _ => rfl)))))))))
theorem ok_gap {f : Addr} {fd : FuncData} {k : Nat} (D : DefAt K mg "gap" s_gap ["first", "second"] f fd) {f_value_within : Addr} {fd_value_within : FuncData} {k_value_within : Nat} (D_value_within : DefAt K mg "value_within" s_value_within ["number", "bits"] f_value_within fd_value_within) (G_value_within : FnOk P w K mg base CX0 k_value_within f_value_within fd_value_within ["number", "bits"] (sp_value_within K 45)) (hk_value_within : k_value_within ≤ k) (b_zip : mg "zip" = none) (b_len : mg "len" = none) {t_NEAR_BITS : Tok} (m_NEAR_BITS : mg "NEAR_BITS" = some (.int 64 t_NEAR_BITS)) : FnOk P w K mg base CX0 (k + 1) f fd ["first", "second"] (sp_gap K) := by
  have nd := sc_gap.nd
  refine D.fn.ok sc_gap (fun vs H Q E h => spF2.len h) (fun cdv A outer s H vs Q E hr h => ⟨t_gap K, ?_, pure_gap h⟩)
  exact (pss_cons (ps_set (i := 2) nd rfl (.inl rfl) pe_int)
      (pss_cons (ps_for PassesOwn.never rfl (RZ.pi_zipA (by rfl) b_zip (pa_cons (pv 0) (pa_cons (pv 1) pa_nil))) (pg_tup rfl (pgs_cons (pg_name (i := 8) nd rfl (.inl rfl)) (pgs_cons (pg_name (i := 9) nd rfl (.inl rfl)) pgs_nil))) (pss_cons (ps_if (pt_cmpR (op_neN (hu150 hr)) (pv 8) (pv 9) (nomark _)) (pss_one ps_break) pss_nil)
      (pss_one (ps_aug (i := 2) nd rfl (.inl rfl) pe_int ip_add))))
      (pss_cons (ps_set (i := 3) nd rfl (.inl rfl) (pe_slice sl_tupA (pv 0) (po_some (pv 2)) po_none))
      (pss_cons (ps_set (i := 4) nd rfl (.inl rfl) (pe_slice sl_tupA (pv 1) (po_some (pv 2)) po_none))
      (pss_cons (ps_set (i := 5) nd rfl (.inl rfl) (pe_op op_add (pe_glob rfl m_NEAR_BITS ⟨_, rfl⟩) (pe_op op_mul pe_int (pe_op op_add (pe_callB call_len_seq (by rfl) b_len PySem.boot_len (pa_cons (pv 3) pa_nil)) (pe_callB call_len_seq (by rfl) b_len PySem.boot_len (pa_cons (pv 4) pa_nil))))))
      (pss_cons (ps_set (i := 6) nd rfl (.inl rfl) (pe_call G_value_within (hr.mono hk_value_within) rfl D_value_within.m D_value_within.fn.kp D_value_within.b .nil pass0 (pa_cons (pv 3) (pa_cons (pv 5) pa_nil))))
      (pss_cons (ps_if (pt_cmpR op_isN (pv 6) pe_non (nomark _)) (pss_one (ps_ret pe_non)) pss_nil)
      (pss_cons (ps_set (i := 7) nd rfl (.inl rfl) (pe_call G_value_within (hr.mono hk_value_within) rfl D_value_within.m D_value_within.fn.kp D_value_within.b .nil pass0 (pa_cons (pv 4) (pa_cons (pv 5) pa_nil))))
      (pss_one (ps_ret (pe_ifExp (pt_cmpR op_isN (pv 7) pe_non (nomark _)) pe_non (pe_op op_sub (pv 6) (pv 7)))))))))))))
theorem ok_terms_at {f : Addr} {fd : FuncData} {k : Nat} (D : DefAt K mg "terms_at" s_terms_at ["base", "value"] f fd) {f_signed_places : Addr} {fd_signed_places : FuncData} {k_signed_places : Nat} (D_signed_places : DefAt K mg "signed_places" s_signed_places ["value"] f_signed_places fd_signed_places) (G_signed_places : FnOk P w K mg base CX0 k_signed_places f_signed_places fd_signed_places ["value"] (sp_signed_places K)) (hk_signed_places : k_signed_places ≤ k) {f_plus_small : Addr} {fd_plus_small : FuncData} {k_plus_small : Nat} (D_plus_small : DefAt K mg "plus_small" s_plus_small ["number", "value"] f_plus_small fd_plus_small) (G_plus_small : FnOk P w K mg base CX0 k_plus_small f_plus_small fd_plus_small ["number", "value"] (sp_plus_small K)) (hk_plus_small : k_plus_small ≤ k) : FnOk P w K mg base CX0 (k + 1) f fd ["base", "value"] (sp_terms_at K) := by
  have nd := sc_terms_at.nd
  refine D.fn.ok sc_terms_at (fun vs H Q E h => spF2.len h) (fun cdv A outer s H vs Q E hr h => ⟨t_terms_at K, ?_, pure_terms_at h⟩)
  exact (pss_cons (ps_if (PW.pt (pw_or (pt_cmpR op_eq (pv 1) pe_int (nomark _)) (pw_or1 (pt_cmpR op_eq (pv 1) (pe_un un_neg pe_int) (nomark _))))) (pss_one (ps_ret (pe_lst (pa_cons (pe_tup (pa_cons (pv 1) (pa_cons (pv 0) pa_nil))) pa_nil)))) pss_nil)
      (pss_one (ps_ret (pe_lc (own := [("sign", 2), ("place", 3)]) (g := (gTup K 2 (gCons (gName 2) (gCons (gName 3) gNil)))) (tt := tYes) (te := (tTup (tCons (tVar 2) (tCons (tCall (sp_plus_small K) [] E0 (tCons (tVar 0) (tCons (tVar 3) tNil))) tNil)))) rfl nd (pi_list (pe_call G_signed_places (hr.mono hk_signed_places) rfl D_signed_places.m D_signed_places.fn.kp D_signed_places.b .nil pass0 (pa_cons (pv 1) pa_nil))) (blkOk_by (own := [("sign", 2), ("place", 3)]) (N := N_terms_at) (sc := defScope s_terms_at) (by decide +kernel)) (fun _ _ _ _ _ => (pg_tup rfl (pgs_cons (pg_name (i := 2) nd rfl (.inl rfl)) (pgs_cons (pg_name (i := 3) nd rfl (.inl rfl)) pgs_nil)))) (fun _ _ _ _ _ => pts_nil) (fun _ _ _ _ _ => (pe_tup (pa_cons (pv 2) (pa_cons (pe_call G_plus_small (hr.mono hk_plus_small) rfl D_plus_small.m D_plus_small.fn.kp D_plus_small.b .nil pass0 (pa_cons (pv 0) (pa_cons (pv 3) pa_nil))) pa_nil))))))))
theorem ok_settled {f : Addr} {fd : FuncData} {k : Nat} (D : DefAt K mg "settled" s_settled ["row", "many"] f fd) {f_gap : Addr} {fd_gap : FuncData} {k_gap : Nat} (D_gap : DefAt K mg "gap" s_gap ["first", "second"] f_gap fd_gap) (G_gap : FnOk P w K mg base CX0 k_gap f_gap fd_gap ["first", "second"] (sp_gap K)) (hk_gap : k_gap ≤ k) {f_terms_at : Addr} {fd_terms_at : FuncData} {k_terms_at : Nat} (D_terms_at : DefAt K mg "terms_at" s_terms_at ["base", "value"] f_terms_at fd_terms_at) (G_terms_at : FnOk P w K mg base CX0 k_terms_at f_terms_at fd_terms_at ["base", "value"] (sp_terms_at K)) (hk_terms_at : k_terms_at ≤ k) (b_len : mg "len" = none) (b_tuple : mg "tuple" = none) : FnOk P w K mg base CX0 (k + 1) f fd ["row", "many"] (sp_settled K) := by
  have nd := sc_settled.nd
  refine D.fn.ok sc_settled (fun vs H Q E h => spF2.len h) (fun cdv A outer s H vs Q E hr h => ⟨t_settled K, ?_, pure_settled h⟩)
  exact (pss_cons (ps_set (i := 2) nd rfl (.inl rfl) (pe_lst pa_nil))
      (pss_cons (ps_set (i := 3) nd rfl (.inl rfl) pe_int)
      (pss_cons (ps_while PassesOwn.never (pt_cmpR op_lt (pv 3) (pv 1) (nomark _)) (pss_cons (ps_asg (pe_ix ix_list (pv 0) (pv 3) (fun _ _ => rfl)) (pg_tup rfl (pgs_cons (pg_name (i := 4) nd rfl (.inl rfl)) (pgs_cons (pg_name (i := 5) nd rfl (.inl rfl)) pgs_nil))))
      (pss_cons (ps_aug (i := 3) nd rfl (.inl rfl) pe_int ip_add)
      (pss_cons (ps_while PassesOwn.never (pt_cmpR op_lt (pv 3) (pe_callB call_len_seq (by rfl) b_len PySem.boot_len (pa_cons (pv 0) pa_nil)) (nomark _)) (pss_cons (ps_set (i := 6) nd rfl (.inl rfl) (pe_call G_gap (hr.mono hk_gap) rfl D_gap.m D_gap.fn.kp D_gap.b .nil pass0 (pa_cons (pe_ix ix_tup (pe_ix ix_list (pv 0) (pv 3) (fun _ _ => rfl)) pe_int (fun _ _ => rfl)) (pa_cons (pv 5) pa_nil))))
      (pss_cons (ps_if (PW.pt (pw_or (pt_cmpR op_isN (pv 6) pe_non (nomark _)) (pw_or1 (pt_cmpR op_gt (pv 6) (pe_op op_add (pe_bits (pv 4)) pe_int) (nomark _))))) (pss_one ps_break) pss_nil)
      (pss_cons (ps_aug (i := 4) nd rfl (.inl rfl) (pe_op op_shl (pe_ix ix_tup (pe_ix ix_list (pv 0) (pv 3) (fun _ _ => rfl)) pe_int (fun _ _ => rfl)) (pv 6)) ip_add)
      (pss_one (ps_aug (i := 3) nd rfl (.inl rfl) pe_int ip_add))))))
      (pss_one (ps_expr (pe_bm PySem.F.plainAttrs_list PySem.F.slot_list_extend PySem.F.type_list_extend mt_extend (pv 2) (pa_cons (pe_call G_terms_at (hr.mono hk_terms_at) rfl D_terms_at.m D_terms_at.fn.kp D_terms_at.b .nil pass0 (pa_cons (pv 5) (pa_cons (pv 4) pa_nil))) pa_nil))))))))
      (pss_cons (ps_expr (pe_bm PySem.F.plainAttrs_list PySem.F.slot_list_extend PySem.F.type_list_extend mt_extend (pv 2) (pa_cons (pe_slice sl_list (pv 0) (po_some (pv 3)) po_none) pa_nil)))
      (pss_one (ps_ret (pe_tupleOf rfl b_tuple (pe_revL (pv 2)))))))))
theorem ok_plus {f : Addr} {fd : FuncData} {k : Nat} (D : DefAt K mg "plus" s_plus ["first", "second"] f fd) {f_value_within : Addr} {fd_value_within : FuncData} {k_value_within : Nat} (D_value_within : DefAt K mg "value_within" s_value_within ["number", "bits"] f_value_within fd_value_within) (G_value_within : FnOk P w K mg base CX0 k_value_within f_value_within fd_value_within ["number", "bits"] (sp_value_within K 45)) (hk_value_within : k_value_within ≤ k) {f_plus_small : Addr} {fd_plus_small : FuncData} {k_plus_small : Nat} (D_plus_small : DefAt K mg "plus_small" s_plus_small ["number", "value"] f_plus_small fd_plus_small) (G_plus_small : FnOk P w K mg base CX0 k_plus_small f_plus_small fd_plus_small ["number", "value"] (sp_plus_small K)) (hk_plus_small : k_plus_small ≤ k) {f_order : Addr} {fd_order : FuncData} {k_order : Nat} (D_order : DefAt K mg "order" s_order ["first", "second"] f_order fd_order) (G_order : FnOk P w K mg base CX0 k_order f_order fd_order ["first", "second"] (sp_order K)) (hk_order : k_order ≤ k) {f_settled : Addr} {fd_settled : FuncData} {k_settled : Nat} (D_settled : DefAt K mg "settled" s_settled ["row", "many"] f_settled fd_settled) (G_settled : FnOk P w K mg base CX0 k_settled f_settled fd_settled ["row", "many"] (sp_settled K)) (hk_settled : k_settled ≤ k) (b_len : mg "len" = none) (b_list : mg "list" = none) {t_INTEGER_BITS : Tok} (m_INTEGER_BITS : mg "INTEGER_BITS" = some (.int 512 t_INTEGER_BITS)) : FnOk P w K mg base CX0 (k + 1) f fd ["first", "second"] (sp_plus K) := by
  have nd := sc_plus.nd
  refine D.fn.ok sc_plus (fun vs H Q E h => spF2.len h) (fun cdv A outer s H vs Q E hr h => ⟨t_plus K, ?_, pure_plus h⟩)
  exact (pss_cons (ps_set (i := 2) nd rfl (.inl rfl) (pe_call G_value_within (hr.mono hk_value_within) rfl D_value_within.m D_value_within.fn.kp D_value_within.b .nil pass0 (pa_cons (pv 1) (pa_cons (pe_glob rfl m_INTEGER_BITS ⟨_, rfl⟩) pa_nil))))
      (pss_cons (ps_if (pt_cmpR op_notN (pv 2) pe_non (nomark _)) (pss_one (ps_ret (pe_call G_plus_small (hr.mono hk_plus_small) rfl D_plus_small.m D_plus_small.fn.kp D_plus_small.b .nil pass0 (pa_cons (pv 0) (pa_cons (pv 2) pa_nil))))) pss_nil)
      (pss_cons (ps_set (i := 2) nd rfl (.inl rfl) (pe_call G_value_within (hr.mono hk_value_within) rfl D_value_within.m D_value_within.fn.kp D_value_within.b .nil pass0 (pa_cons (pv 0) (pa_cons (pe_glob rfl m_INTEGER_BITS ⟨_, rfl⟩) pa_nil))))
      (pss_cons (ps_if (pt_cmpR op_notN (pv 2) pe_non (nomark _)) (pss_one (ps_ret (pe_call G_plus_small (hr.mono hk_plus_small) rfl D_plus_small.m D_plus_small.fn.kp D_plus_small.b .nil pass0 (pa_cons (pv 1) (pa_cons (pv 2) pa_nil))))) pss_nil)
      (pss_cons (ps_set (i := 3) nd rfl (.inl rfl) (pe_lst pa_nil))
      (pss_cons (ps_set (i := 4) nd rfl (.inl rfl) (pe_callB call_len_seq (by rfl) b_len PySem.boot_len (pa_cons (pv 0) pa_nil)))
      (pss_cons (ps_set (i := 5) nd rfl (.inl rfl) (pe_callB call_len_seq (by rfl) b_len PySem.boot_len (pa_cons (pv 1) pa_nil)))
      (pss_cons (ps_while PassesOwn.never (PW.pt (pw_and (pt_cmpR op_gt (pv 4) pe_int (nomark _)) (pw_and1 (pt_cmpR op_gt (pv 5) pe_int (nomark _))))) (pss_one (ps_if (pt_cmpR op_lt (pe_call G_order (hr.mono hk_order) rfl D_order.m D_order.fn.kp D_order.b .nil pass0 (pa_cons (pe_ix ix_tup (pe_ix ix_tup (pv 0) (pe_op op_sub (pv 4) pe_int) (fun _ _ => rfl)) pe_int (fun _ _ => rfl)) (pa_cons (pe_ix ix_tup (pe_ix ix_tup (pv 1) (pe_op op_sub (pv 5) pe_int) (fun _ _ => rfl)) pe_int (fun _ _ => rfl)) pa_nil))) pe_int (nomark _)) (pss_cons (ps_aug (i := 4) nd rfl (.inl rfl) pe_int ip_sub)
      (pss_one (ps_expr (pe_bm PySem.F.plainAttrs_list PySem.F.slot_list_append PySem.F.type_list_append mt_append (pv 3) (pa_cons (pe_ix ix_tup (pv 0) (pv 4) (fun _ _ => rfl)) pa_nil))))) (pss_cons (ps_aug (i := 5) nd rfl (.inl rfl) pe_int ip_sub)
      (pss_one (ps_expr (pe_bm PySem.F.plainAttrs_list PySem.F.slot_list_append PySem.F.type_list_append mt_append (pv 3) (pa_cons (pe_ix ix_tup (pv 1) (pv 5) (fun _ _ => rfl)) pa_nil))))))))
      (pss_cons (ps_set (i := 6) nd rfl (.inl rfl) (pe_op op_catA (pe_slice sl_tupA (pv 0) po_none (po_some (pv 4))) (pe_slice sl_tupA (pv 1) po_none (po_some (pv 5)))))
      (pss_one (ps_ret (pe_call G_settled (hr.mono hk_settled) rfl D_settled.m D_settled.fn.kp D_settled.b .nil pass0 (pa_cons (pe_op op_cat (pv 3) (pe_callTy call_list_of (by rfl) b_list (by decide +kernel) (pa_cons (pe_revT (pv 6)) pa_nil))) (pa_cons (pe_callB call_len_seq (by rfl) b_len PySem.boot_len (pa_cons (pv 3) pa_nil)) pa_nil))))))))))))))
theorem ok_index_in {f : Addr} {fd : FuncData} {k : Nat} (D : DefAt K mg "index_in" s_index_in ["row", "exponent"] f fd) {f_order : Addr} {fd_order : FuncData} {k_order : Nat} (D_order : DefAt K mg "order" s_order ["first", "second"] f_order fd_order) (G_order : FnOk P w K mg base CX0 k_order f_order fd_order ["first", "second"] (sp_order K)) (hk_order : k_order ≤ k) (b_len : mg "len" = none) : FnOk P w K mg base CX0 (k + 1) f fd ["row", "exponent"] (sp_index_in K) := by
  have nd := sc_index_in.nd
  refine D.fn.ok sc_index_in (fun vs H Q E h => spF2.len h) (fun cdv A outer s H vs Q E hr h => ⟨t_index_in K, ?_, pure_index_in h⟩)
  exact (pss_cons (ps_set (i := 2) nd rfl (.inl rfl) pe_int)
      (pss_cons (ps_set (i := 3) nd rfl (.inl rfl) (pe_callB call_len_seq (by rfl) b_len PySem.boot_len (pa_cons (pv 0) pa_nil)))
      (pss_cons (ps_while PassesOwn.never (pt_cmpR op_lt (pv 2) (pv 3) (nomark _)) (pss_cons (ps_set (i := 4) nd rfl (.inl rfl) (pe_op op_fdiv (pe_op op_add (pv 2) (pv 3)) pe_int))
      (pss_one (ps_if (pt_cmpR op_lt (pe_call G_order (hr.mono hk_order) rfl D_order.m D_order.fn.kp D_order.b .nil pass0 (pa_cons (pe_ix ix_tup (pe_ix ix_list (pv 0) (pv 4) (fun _ _ => rfl)) pe_int (fun _ _ => rfl)) (pa_cons (pv 1) pa_nil))) pe_int (nomark _)) (pss_one (ps_set (i := 2) nd rfl (.inl rfl) (pe_op op_add (pv 4) pe_int))) (pss_one (ps_set (i := 3) nd rfl (.inl rfl) (pv 4)))))))
      (pss_one (ps_ret (pv 2))))))
theorem ok_bare_sum {f : Addr} {fd : FuncData} {k : Nat} (D : DefAt K mg "bare_sum" s_bare_sum ["terms"] f fd) {f_value_within : Addr} {fd_value_within : FuncData} {k_value_within : Nat} (D_value_within : DefAt K mg "value_within" s_value_within ["number", "bits"] f_value_within fd_value_within) (G_value_within : FnOk P w K mg base CX0 k_value_within f_value_within fd_value_within ["number", "bits"] (sp_value_within K 45)) (hk_value_within : k_value_within ≤ k) {f_index_in : Addr} {fd_index_in : FuncData} {k_index_in : Nat} (D_index_in : DefAt K mg "index_in" s_index_in ["row", "exponent"] f_index_in fd_index_in) (G_index_in : FnOk P w K mg base CX0 k_index_in f_index_in fd_index_in ["row", "exponent"] (sp_index_in K)) (hk_index_in : k_index_in ≤ k) {f_plus_small : Addr} {fd_plus_small : FuncData} {k_plus_small : Nat} (D_plus_small : DefAt K mg "plus_small" s_plus_small ["number", "value"] f_plus_small fd_plus_small) (G_plus_small : FnOk P w K mg base CX0 k_plus_small f_plus_small fd_plus_small ["number", "value"] (sp_plus_small K)) (hk_plus_small : k_plus_small ≤ k) {f_settled : Addr} {fd_settled : FuncData} {k_settled : Nat} (D_settled : DefAt K mg "settled" s_settled ["row", "many"] f_settled fd_settled) (G_settled : FnOk P w K mg base CX0 k_settled f_settled fd_settled ["row", "many"] (sp_settled K)) (hk_settled : k_settled ≤ k) (b_len : mg "len" = none) {t_PLACE_BITS : Tok} (m_PLACE_BITS : mg "PLACE_BITS" = some (.int 9 t_PLACE_BITS)) : FnOk P w K mg base CX0 (k + 1) f fd ["terms"] (sp_bare_sum K) := by
  have nd := sc_bare_sum.nd
  refine D.fn.ok sc_bare_sum (fun vs H Q E h => spF1.len h) (fun cdv A outer s H vs Q E hr h => ⟨t_bare_sum K, ?_, pure_bare_sum h⟩)
  exact (pss_cons (ps_set (i := 1) nd rfl (.inl rfl) pe_int)
      (pss_cons (ps_set (i := 2) nd rfl (.inl rfl) (pe_lst pa_nil))
      (pss_cons (ps_for PassesOwn.never rfl (pi_list (pv 0)) (pg_tup rfl (pgs_cons (pg_name (i := 3) nd rfl (.inl rfl)) (pgs_cons (pg_name (i := 4) nd rfl (.inl rfl)) pgs_nil))) (pss_cons (ps_set (i := 5) nd rfl (.inl rfl) (pe_call G_value_within (hr.mono hk_value_within) rfl D_value_within.m D_value_within.fn.kp D_value_within.b .nil pass0 (pa_cons (pv 4) (pa_cons (pe_glob rfl m_PLACE_BITS ⟨_, rfl⟩) pa_nil))))
      (pss_cons (ps_if (pt_cmpR op_notN (pv 5) pe_non (nomark _)) (pss_cons (ps_aug (i := 1) nd rfl (.inl rfl) (pe_op op_shl (pv 3) (pv 5)) ip_add)
      (pss_one ps_continue)) pss_nil)
      (pss_cons (ps_set (i := 6) nd rfl (.inl rfl) (pe_call G_index_in (hr.mono hk_index_in) rfl D_index_in.m D_index_in.fn.kp D_index_in.b .nil pass0 (pa_cons (pv 2) (pa_cons (pv 4) pa_nil))))
      (pss_one (ps_if (PW.pt (pw_and (pt_cmpR op_lt (pv 6) (pe_callB call_len_seq (by rfl) b_len PySem.boot_len (pa_cons (pv 2) pa_nil)) (nomark _)) (pw_and1 (pt_cmpR (op_eqN (hu150 hr)) (pe_ix ix_tup (pe_ix ix_list (pv 2) (pv 6) (fun _ _ => rfl)) pe_int (fun _ _ => rfl)) (pv 4) (nomark _))))) (pss_one (ps_asg (pe_tup (pa_cons (pe_op op_add (pe_ix ix_tup (pe_ix ix_list (pv 2) (pv 6) (fun _ _ => rfl)) pe_int (fun _ _ => rfl)) (pv 3)) (pa_cons (pv 4) pa_nil))) (pg_sub (pv 2) (pv 6) set_list))) (pss_one (ps_expr (pe_bm PySem.F.plainAttrs_list PySem.F.slot_list_insert PySem.F.type_list_insert mt_insert (pv 2) (pa_cons (pv 6) (pa_cons (pe_tup (pa_cons (pv 3) (pa_cons (pv 4) pa_nil))) pa_nil)))))))))))
      (pss_one (ps_ret (pe_call G_plus_small (hr.mono hk_plus_small) rfl D_plus_small.m D_plus_small.fn.kp D_plus_small.b .nil pass0 (pa_cons (pe_call G_settled (hr.mono hk_settled) rfl D_settled.m D_settled.fn.kp D_settled.b .nil pass0 (pa_cons (pv 2) (pa_cons (pe_callB call_len_seq (by rfl) b_len PySem.boot_len (pa_cons (pv 2) pa_nil)) pa_nil))) (pa_cons (pv 1) pa_nil))))))))
theorem ok_bare_shift {f : Addr} {fd : FuncData} {k : Nat} (D : DefAt K mg "bare_shift" s_bare_shift ["terms", "places"] f fd) {f_value_within : Addr} {fd_value_within : FuncData} {k_value_within : Nat} (D_value_within : DefAt K mg "value_within" s_value_within ["number", "bits"] f_value_within fd_value_within) (G_value_within : FnOk P w K mg base CX0 k_value_within f_value_within fd_value_within ["number", "bits"] (sp_value_within K 45)) (hk_value_within : k_value_within ≤ k) {f_plus_small : Addr} {fd_plus_small : FuncData} {k_plus_small : Nat} (D_plus_small : DefAt K mg "plus_small" s_plus_small ["number", "value"] f_plus_small fd_plus_small) (G_plus_small : FnOk P w K mg base CX0 k_plus_small f_plus_small fd_plus_small ["number", "value"] (sp_plus_small K)) (hk_plus_small : k_plus_small ≤ k) {f_plus : Addr} {fd_plus : FuncData} {k_plus : Nat} (D_plus : DefAt K mg "plus" s_plus ["first", "second"] f_plus fd_plus) (G_plus : FnOk P w K mg base CX0 k_plus f_plus fd_plus ["first", "second"] (sp_plus K)) (hk_plus : k_plus ≤ k) (b_tuple : mg "tuple" = none) {t_INTEGER_BITS : Tok} (m_INTEGER_BITS : mg "INTEGER_BITS" = some (.int 512 t_INTEGER_BITS)) : FnOk P w K mg base CX0 (k + 1) f fd ["terms", "places"] (sp_bare_shift K) := by
  have nd := sc_bare_shift.nd
  refine D.fn.ok sc_bare_shift (fun vs H Q E h => spF2.len h) (fun cdv A outer s H vs Q E hr h => ⟨t_bare_shift K, ?_, pure_bare_shift h⟩)
  exact (pss_cons (ps_set (i := 2) nd rfl (.inr rfl) (pe_call G_value_within (hr.mono hk_value_within) rfl D_value_within.m D_value_within.fn.kp D_value_within.b .nil pass0 (pa_cons (pv 1) (pa_cons (pe_glob rfl m_INTEGER_BITS ⟨_, rfl⟩) pa_nil))))
      (pss_cons (ps_if (pt_cmpR op_notN (pv 2) pe_non (nomark _)) (pss_one (ps_ret (pe_tupleOf rfl b_tuple (pe_lc (own := [("sign", 3), ("exponent", 4)]) (g := (gTup K 2 (gCons (gName 3) (gCons (gName 4) gNil)))) (tt := tYes) (te := (tTup (tCons (tVar 3) (tCons (tCall (sp_plus_small K) [] E0 (tCons (tVar 4) (tCons (tVar 2) tNil))) tNil)))) rfl nd (pi_tup (pv 0)) (blkOk_by (own := [("sign", 3), ("exponent", 4)]) (N := N_bare_shift) (sc := defScope s_bare_shift) (by decide +kernel)) (fun _ _ _ _ _ => (pg_tup rfl (pgs_cons (pg_name (i := 3) nd rfl (.inl rfl)) (pgs_cons (pg_name (i := 4) nd rfl (.inl rfl)) pgs_nil)))) (fun _ _ _ _ _ => pts_nil) (fun _ _ _ _ _ => (pe_tup (pa_cons (pv 3) (pa_cons (pe_call G_plus_small (hr.mono hk_plus_small) rfl D_plus_small.m D_plus_small.fn.kp D_plus_small.b .nil pass0 (pa_cons (pv 4) (pa_cons (pv 2) pa_nil))) pa_nil)))))))) pss_nil)
      (pss_one (ps_ret (pe_tupleOf rfl b_tuple (pe_lc (own := [("sign", 3), ("exponent", 4)]) (g := (gTup K 2 (gCons (gName 3) (gCons (gName 4) gNil)))) (tt := tYes) (te := (tTup (tCons (tVar 3) (tCons (tCall (sp_plus K) [] E0 (tCons (tVar 4) (tCons (tVar 1) tNil))) tNil)))) rfl nd (pi_tup (pv 0)) (blkOk_by (own := [("sign", 3), ("exponent", 4)]) (N := N_bare_shift) (sc := defScope s_bare_shift) (by decide +kernel)) (fun _ _ _ _ _ => (pg_tup rfl (pgs_cons (pg_name (i := 3) nd rfl (.inl rfl)) (pgs_cons (pg_name (i := 4) nd rfl (.inl rfl)) pgs_nil)))) (fun _ _ _ _ _ => pts_nil) (fun _ _ _ _ _ => (pe_tup (pa_cons (pv 3) (pa_cons (pe_call G_plus (hr.mono hk_plus) rfl D_plus.m D_plus.fn.kp D_plus.b .nil pass0 (pa_cons (pv 4) (pa_cons (pv 1) pa_nil))) pa_nil))))))))))
theorem ok_levels {f : Addr} {fd : FuncData} {k : Nat} (D : DefAt K mg "levels" s_levels ["number"] f fd) : FnOk P w K mg base CX0 (k + 1) f fd ["number"] (sp_levels K) := by
  have nd := sc_levels.nd
  refine D.fn.ok sc_levels (fun vs H Q E h => spF1.len h) (fun cdv A outer s H vs Q E hr h => ⟨t_levels K, ?_, pure_levels h⟩)
  exact (pss_cons (ps_set (i := 1) nd rfl (.inl rfl) (pe_lst pa_nil))
      (pss_cons (ps_set (i := 2) nd rfl (.inl rfl) (pe_lst (pa_cons (pv 0) pa_nil)))
      (pss_cons (ps_while PassesOwn.never (pt_truth (pv 2) (by intro _; rfl)) (pss_cons (ps_expr (pe_bm PySem.F.plainAttrs_list PySem.F.slot_list_append PySem.F.type_list_append mt_append (pv 1) (pa_cons (pv 2) pa_nil)))
      (pss_one (ps_setLc2 (i := 2) (own := [("item", 3), ("_", 4), ("exponent", 5)]) (g := (gName 3)) (tt := tYes) (g1 := (gTup K 2 (gCons (gName 4) (gCons (gName 5) gNil)))) (tt1 := tYes) (te := (tVar 5)) (vs1 := [4, 5]) rfl nd rfl rfl (sw_true rfl rfl rfl (by decide +kernel)) (pi_list (pv 2)) (blkOk_by (own := [("item", 3), ("_", 4), ("exponent", 5)]) (N := N_levels) (sc := defScope s_levels) (by decide +kernel)) (by decide) (fun _ _ _ _ _ => (pg_name (i := 3) nd rfl (.inl rfl))) (fun _ _ _ _ _ => pts_nil) (fun _ _ _ _ _ => (pi_tup (pv 3))) (fun _ _ _ _ _ => (pg_tup rfl (pgs_cons (pg_name (i := 4) nd rfl (.inl rfl)) (pgs_cons (pg_name (i := 5) nd rfl (.inl rfl)) pgs_nil)))) (fun _ _ _ _ _ => pts_nil) (fun _ _ _ _ _ => (pv 5))))))
      (pss_one (ps_ret (pv 1))))))
theorem ok_is_allowed {f : Addr} {fd : FuncData} {k : Nat} (D : DefAt K mg "is_allowed" s_is_allowed ["number"] f fd) {f_levels : Addr} {fd_levels : FuncData} {k_levels : Nat} (D_levels : DefAt K mg "levels" s_levels ["number"] f_levels fd_levels) (G_levels : FnOk P w K mg base CX0 k_levels f_levels fd_levels ["number"] (sp_levels K)) (hk_levels : k_levels ≤ k) (b_sum : mg "sum" = none) (b_len : mg "len" = none) {t_MAX_SIZE : Tok} (m_MAX_SIZE : mg "MAX_SIZE" = some (.int 300 t_MAX_SIZE)) {t_MAX_HEIGHT : Tok} (m_MAX_HEIGHT : mg "MAX_HEIGHT" = some (.int 40 t_MAX_HEIGHT)) : FnOk P w K mg base CX0 (k + 1) f fd ["number"] (sp_is_allowed K) := by
  have nd := sc_is_allowed.nd
  refine D.fn.ok sc_is_allowed (fun vs H Q E h => spF1.len h) (fun cdv A outer s H vs Q E hr h => ⟨t_is_allowed K, ?_, pure_is_allowed h⟩)
  exact (pss_cons (ps_set (i := 1) nd rfl (.inl rfl) (pe_call G_levels (hr.mono hk_levels) rfl D_levels.m D_levels.fn.kp D_levels.b .nil pass0 (pa_cons (pv 0) pa_nil)))
      (pss_one (ps_ret (pe_and (pe_cmpR op_le (pe_callB (cr_sum rfl) (by rfl) b_sum (by decide +kernel) (pa_cons (pe_lc (own := [("row", 2)]) (g := (gName 2)) (tt := tYes) (te := (tCB (rLenS K) (tCons (tVar 2) tNil))) rfl nd (pi_list (pv 1)) (blkOk_by (own := [("row", 2)]) (N := N_is_allowed) (sc := defScope s_is_allowed) (by decide +kernel)) (fun _ _ _ _ _ => (pg_name (i := 2) nd rfl (.inl rfl))) (fun _ _ _ _ _ => pts_nil) (fun _ _ _ _ _ => (pe_callB call_len_seq (by rfl) b_len PySem.boot_len (pa_cons (pv 2) pa_nil)))) pa_nil)) (pe_glob rfl m_MAX_SIZE ⟨_, rfl⟩) (nomark _)) (pe_one (pe_cmpR op_le (pe_callB call_len_seq (by rfl) b_len PySem.boot_len (pa_cons (pv 1) pa_nil)) (pe_op op_add (pe_glob rfl m_MAX_HEIGHT ⟨_, rfl⟩) pe_int) (nomark _)))))))
theorem ok_allowed {f : Addr} {fd : FuncData} {k : Nat} (D : DefAt K mg "allowed" s_allowed ["number"] f fd) {a_TooLarge : Addr} (C_TooLarge : ClsAt K mg "TooLarge" a_TooLarge) (X_TooLarge : ErrC P w K mg base "TooLarge" a_TooLarge) (hk3 : 3 ≤ k) {f_is_allowed : Addr} {fd_is_allowed : FuncData} {k_is_allowed : Nat} (D_is_allowed : DefAt K mg "is_allowed" s_is_allowed ["number"] f_is_allowed fd_is_allowed) (G_is_allowed : FnOk P w K mg base CX0 k_is_allowed f_is_allowed fd_is_allowed ["number"] (sp_is_allowed K)) (hk_is_allowed : k_is_allowed ≤ k) : FnOk P w K mg base (L2.CX P w) (k + 1) f fd ["number"] (sp_allowed K a_TooLarge) := by
  have nd := sc_allowed.nd
  refine D.fn.okX sc_allowed (fun vs H Q E h => spX1.len h) (fun cdv A outer s H vs Q E hr h => ⟨t_allowed K a_TooLarge E, ?_, pure_allowed h⟩)
  exact (pss_cons (ps_if (pt_not (pt_val (pe_call G_is_allowed (hr.mono hk_is_allowed) rfl D_is_allowed.m D_is_allowed.fn.kp D_is_allowed.b .nil pass0 (pa_cons (pv 0) pa_nil)))) (pss_one (ps_err rfl (takes_of rfl rfl rfl rfl) rfl X_TooLarge (hr.mono hk3) (by rfl))) pss_nil)
      (pss_one (ps_ret (pv 0))))
theorem ok_sign_of {f : Addr} {fd : FuncData} {k : Nat} (D : DefAt K mg "sign_of" s_sign_of ["number"] f fd) : FnOk P w K mg base CX0 (k + 1) f fd ["number"] (sp_sign_of K) := by
  have nd := sc_sign_of.nd
  refine D.fn.ok sc_sign_of (fun vs H Q E h => spF1.len h) (fun cdv A outer s H vs Q E hr h => ⟨t_sign_of K, ?_, pure_sign_of h⟩)
  exact (pss_one (ps_ret (pe_ifExp (pt_truth (pv 0) (by intro _; rfl)) (pe_ix ix_tup (pe_ix ix_tup (pv 0) pe_int (fun _ _ => rfl)) pe_int (fun _ _ => rfl)) pe_int)))
theorem ok_of_int {f : Addr} {fd : FuncData} {k : Nat} (D : DefAt K mg "of_int" s_of_int ["value"] f fd) {a_NotAllowed : Addr} (C_NotAllowed : ClsAt K mg "NotAllowed" a_NotAllowed) {a_TooLarge : Addr} (C_TooLarge : ClsAt K mg "TooLarge" a_TooLarge) (X_NotAllowed : ErrC P w K mg base "NotAllowed" a_NotAllowed) (hk3 : 3 ≤ k) {f_allowed : Addr} {fd_allowed : FuncData} {k_allowed : Nat} (D_allowed : DefAt K mg "allowed" s_allowed ["number"] f_allowed fd_allowed) (G_allowed : FnOk P w K mg base (L2.CX P w) k_allowed f_allowed fd_allowed ["number"] (sp_allowed K a_TooLarge)) (hk_allowed : k_allowed ≤ k) {f_bare_number : Addr} {fd_bare_number : FuncData} {k_bare_number : Nat} (D_bare_number : DefAt K mg "bare_number" s_bare_number ["value"] f_bare_number fd_bare_number) (G_bare_number : FnOk P w K mg base CX0 k_bare_number f_bare_number fd_bare_number ["value"] (sp_bare_number K 7)) (hk_bare_number : k_bare_number ≤ k) {t_MAX_GIVEN_BITS : Tok} (m_MAX_GIVEN_BITS : mg "MAX_GIVEN_BITS" = some (.int 2900 t_MAX_GIVEN_BITS)) : FnOk P w K mg base (L2.CX P w) (k + 1) f fd ["value"] (sp_of_int K a_NotAllowed a_TooLarge) := by
  have nd := sc_of_int.nd
  refine D.fn.okX sc_of_int (fun vs H Q E h => spX1.len h) (fun cdv A outer s H vs Q E hr h => ⟨t_of_int K a_NotAllowed a_TooLarge E, ?_, pure_of_int h⟩)
  exact (pss_cons (ps_if (pt_cmpR op_gt (pe_bits (pv 0)) (pe_glob rfl m_MAX_GIVEN_BITS ⟨_, rfl⟩) (nomark _)) (pss_one (ps_err rfl (takes_of rfl rfl rfl rfl) rfl X_NotAllowed (hr.mono hk3) (by rfl))) pss_nil)
      (pss_one (ps_ret (pe_call G_allowed (hr.mono hk_allowed) rfl D_allowed.m D_allowed.fn.kp D_allowed.b .nil (passes_call (takes_of rfl rfl rfl rfl) (fun _ _ _ _ z => z)) (pa_cons (pe_call G_bare_number (hr.mono hk_bare_number) rfl D_bare_number.m D_bare_number.fn.kp D_bare_number.b .nil pass0 (pa_cons (pv 0) pa_nil)) pa_nil)))))
theorem ok_check_modulus {f : Addr} {fd : FuncData} {k : Nat} (D : DefAt K mg "check_modulus" s_check_modulus ["m"] f fd) {a_NotAllowed : Addr} (C_NotAllowed : ClsAt K mg "NotAllowed" a_NotAllowed) (X_NotAllowed : ErrC P w K mg base "NotAllowed" a_NotAllowed) (hk3 : 3 ≤ k) {t_MAX_MODULUS : Tok} (m_MAX_MODULUS : mg "MAX_MODULUS" = some (.int 10000 t_MAX_MODULUS)) : FnOk P w K mg base (L2.CX P w) (k + 1) f fd ["m"] (sp_check_modulus K a_NotAllowed) := by
  have nd := sc_check_modulus.nd
  refine D.fn.okX sc_check_modulus (fun vs H Q E h => spX1.len h) (fun cdv A outer s H vs Q E hr h => ⟨t_check_modulus K a_NotAllowed E, ?_, pure_check_modulus h⟩)
  exact (pss_one (ps_if (PW.pt (pw_or (pt_cmpR op_lt (pv 0) pe_int (nomark _)) (pw_or1 (pt_cmpR op_gt (pv 0) (pe_glob rfl m_MAX_MODULUS ⟨_, rfl⟩) (nomark _))))) (pss_one (ps_err rfl (takes_of rfl rfl rfl rfl) rfl X_NotAllowed (hr.mono hk3) (by rfl))) pss_nil))
theorem ok_power_row {f : Addr} {fd : FuncData} {k : Nat} (D : DefAt K mg "power_row" s_power_row ["m"] f fd) (b_len : mg "len" = none) : FnOk P w K mg base CX0 (k + 1) f fd ["m"] (sp_power_row K) := by
  have nd := sc_power_row.nd
  refine D.fn.ok sc_power_row (fun vs H Q E h => spF1.len h) (fun cdv A outer s H vs Q E hr h => ⟨t_power_row K, ?_, pure_power_row h⟩)
  exact (pss_cons (ps_set (i := 1) nd rfl (.inl rfl) (pe_lst pa_nil))
      (pss_cons (ps_set (i := 2) nd rfl (.inl rfl) pe_dnewK)
      (pss_cons (ps_set (i := 3) nd rfl (.inl rfl) (pe_op op_mod pe_int (pv 0)))
      (pss_cons (ps_while PassesOwn.never (pt_cmp (pc_dnotin (hu_of hr) (pv 3) (pv 2))) (pss_cons (ps_dput (hu_of hr) (pv 2) (pv 3) (pe_callB call_len_seq (by rfl) b_len PySem.boot_len (pa_cons (pv 1) pa_nil)) rfl)
      (pss_cons (ps_expr (pe_bm PySem.F.plainAttrs_list PySem.F.slot_list_append PySem.F.type_list_append mt_append (pv 1) (pa_cons (pv 3) pa_nil)))
      (pss_one (ps_set (i := 3) nd rfl (.inl rfl) (pe_op op_mod (pe_op op_mul pe_int (pv 3)) (pv 0)))))))
      (pss_one (ps_ret (pe_tup (pa_cons (pv 1) (pa_cons (pe_dget (hu_of hr) (pv 2) (pv 3) (fun _ _ => rfl)) pa_nil)))))))))
theorem ok_power_rows {f : Addr} {fd : FuncData} {k : Nat} (D : DefAt K mg "power_rows" s_power_rows ["m"] f fd) {f_power_row : Addr} {fd_power_row : FuncData} {k_power_row : Nat} (D_power_row : DefAt K mg "power_row" s_power_row ["m"] f_power_row fd_power_row) (G_power_row : FnOk P w K mg base CX0 k_power_row f_power_row fd_power_row ["m"] (sp_power_row K)) (hk_power_row : k_power_row ≤ k) (b_len : mg "len" = none) : FnOk P w K mg base CX0 (k + 1) f fd ["m"] (sp_power_rows K) := by
  have nd := sc_power_rows.nd
  refine D.fn.ok sc_power_rows (fun vs H Q E h => spF1.len h) (fun cdv A outer s H vs Q E hr h => ⟨t_power_rows K, ?_, pure_power_rows h⟩)
  exact (pss_cons (ps_set (i := 1) nd rfl (.inl rfl) (pe_lst pa_nil))
      (pss_cons (ps_while PassesOwn.never (pt_cmpR op_gt (pv 0) pe_int (nomark _)) (pss_cons (ps_asg (pe_call G_power_row (hr.mono hk_power_row) rfl D_power_row.m D_power_row.fn.kp D_power_row.b .nil pass0 (pa_cons (pv 0) pa_nil)) (pg_tup rfl (pgs_cons (pg_name (i := 2) nd rfl (.inl rfl)) (pgs_cons (pg_name (i := 3) nd rfl (.inl rfl)) pgs_nil))))
      (pss_cons (ps_expr (pe_bm PySem.F.plainAttrs_list PySem.F.slot_list_append PySem.F.type_list_append mt_append (pv 1) (pa_cons (pe_tup (pa_cons (pv 0) (pa_cons (pv 2) (pa_cons (pv 3) pa_nil)))) pa_nil)))
      (pss_one (ps_set (i := 0) nd rfl (.inl rfl) (pe_op op_sub (pe_callB call_len_seq (by rfl) b_len PySem.boot_len (pa_cons (pv 2) pa_nil)) (pv 3)))))))
      (pss_one (ps_ret (pv 1)))))
theorem ok_power_by_rows {f : Addr} {fd : FuncData} {k : Nat} {d : Nat} (D : DefAt K mg "power_by_rows" s_power_by_rows ["exponent", "rows", "at"] f fd) {f_value_within : Addr} {fd_value_within : FuncData} {k_value_within : Nat} (D_value_within : DefAt K mg "value_within" s_value_within ["number", "bits"] f_value_within fd_value_within) (G_value_within : FnOk P w K mg base CX0 k_value_within f_value_within fd_value_within ["number", "bits"] (sp_value_within K 45)) (hk_value_within : k_value_within ≤ k) {f_number_by_rows : Addr} {fd_number_by_rows : FuncData} {k_number_by_rows : Nat} (D_number_by_rows : DefAt K mg "number_by_rows" s_number_by_rows ["x", "rows", "at"] f_number_by_rows fd_number_by_rows) (G_number_by_rows : FnOk P w K mg base CX0 k_number_by_rows f_number_by_rows fd_number_by_rows ["x", "rows", "at"] (sp_number_by_rows K d)) (hk_number_by_rows : k_number_by_rows ≤ k) (b_len : mg "len" = none) : FnOk P w K mg base CX0 (k + 1) f fd ["exponent", "rows", "at"] (sp_power_by_rows K d) := by
  have nd := sc_power_by_rows.nd
  refine D.fn.ok sc_power_by_rows (fun vs H Q E h => spF3.len h) (fun cdv A outer s H vs Q E hr h => ⟨t_power_by_rows K d, ?_, pure_power_by_rows h⟩)
  exact (pss_cons (ps_asg (pe_ix ix_list (pv 1) (pv 2) (fun _ _ => rfl)) (pg_tup rfl (pgs_cons (pg_name (i := 5) nd rfl (.inl rfl)) (pgs_cons (pg_name (i := 6) nd rfl (.inl rfl)) (pgs_cons (pg_name (i := 7) nd rfl (.inl rfl)) pgs_nil)))))
      (pss_cons (ps_set (i := 3) nd rfl (.inl rfl) (pe_call G_value_within (hr.mono hk_value_within) rfl D_value_within.m D_value_within.fn.kp D_value_within.b .nil pass0 (pa_cons (pv 0) (pa_cons (pe_bits (pv 7)) pa_nil))))
      (pss_cons (ps_if (PW.pt (pw_and (pt_cmpR op_notN (pv 3) pe_non (nomark _)) (pw_and1 (pt_cmpR op_lt (pv 3) (pv 7) (nomark _))))) (pss_one (ps_ret (pe_ix ix_list (pv 6) (pv 3) (fun _ _ => rfl)))) pss_nil)
      (pss_cons (ps_set (i := 4) nd rfl (.inl rfl) (pe_op op_sub (pe_call G_number_by_rows (hr.mono hk_number_by_rows) rfl D_number_by_rows.m D_number_by_rows.fn.kp D_number_by_rows.b .nil pass0 (pa_cons (pv 0) (pa_cons (pv 1) (pa_cons (pe_op op_add (pv 2) pe_int) pa_nil)))) (pv 7)))
      (pss_one (ps_ret (pe_ix ix_list (pv 6) (pe_op op_add (pv 7) (pe_op op_mod (pv 4) (pe_op op_sub (pe_callB call_len_seq (by rfl) b_len PySem.boot_len (pa_cons (pv 6) pa_nil)) (pv 7)))) (fun _ _ => rfl))))))))
theorem ok_number_by_rows {f : Addr} {fd : FuncData} {k : Nat} {d : Nat} (D : DefAt K mg "number_by_rows" s_number_by_rows ["x", "rows", "at"] f fd) {f_power_by_rows : Addr} {fd_power_by_rows : FuncData} {k_power_by_rows : Nat} (D_power_by_rows : DefAt K mg "power_by_rows" s_power_by_rows ["exponent", "rows", "at"] f_power_by_rows fd_power_by_rows) (G_power_by_rows : FnOk P w K mg base CX0 k_power_by_rows f_power_by_rows fd_power_by_rows ["exponent", "rows", "at"] (sp_power_by_rows K d)) (hk_power_by_rows : k_power_by_rows ≤ k) (b_len : mg "len" = none) (b_sum : mg "sum" = none) : FnOk P w K mg base CX0 (k + 1) f fd ["x", "rows", "at"] (sp_number_by_rows K (d + 1)) := by
  have nd := sc_number_by_rows.nd
  refine D.fn.ok sc_number_by_rows (fun vs H Q E h => spF3.len h) (fun cdv A outer s H vs Q E hr h => ⟨t_number_by_rows K d, ?_, pure_number_by_rows h⟩)
  exact (pss_cons (ps_if (pt_cmpR op_eq (pv 2) (pe_callB call_len_seq (by rfl) b_len PySem.boot_len (pa_cons (pv 1) pa_nil)) (nomark _)) (pss_one (ps_ret pe_int)) pss_nil)
      (pss_one (ps_ret (pe_op op_mod (pe_callB (cr_sum rfl) (by rfl) b_sum (by decide +kernel) (pa_cons (pe_lc (own := [("sign", 3), ("exponent", 4)]) (g := (gTup K 2 (gCons (gName 3) (gCons (gName 4) gNil)))) (tt := tYes) (te := (tOp xMul (tVar 3) (tCall (sp_power_by_rows K d) [] E0 (tCons (tVar 4) (tCons (tVar 1) (tCons (tVar 2) tNil)))))) rfl nd (pi_tup (pv 0)) (blkOk_by (own := [("sign", 3), ("exponent", 4)]) (N := N_number_by_rows) (sc := defScope s_number_by_rows) (by decide +kernel)) (fun _ _ _ _ _ => (pg_tup rfl (pgs_cons (pg_name (i := 3) nd rfl (.inl rfl)) (pgs_cons (pg_name (i := 4) nd rfl (.inl rfl)) pgs_nil)))) (fun _ _ _ _ _ => pts_nil) (fun _ _ _ _ _ => (pe_op op_mul (pv 3) (pe_call G_power_by_rows (hr.mono hk_power_by_rows) rfl D_power_by_rows.m D_power_by_rows.fn.kp D_power_by_rows.b .nil pass0 (pa_cons (pv 4) (pa_cons (pv 1) (pa_cons (pv 2) pa_nil))))))) pa_nil)) (pe_ix ix_tup (pe_ix ix_list (pv 1) (pv 2) (fun _ _ => rfl)) pe_int (fun _ _ => rfl))))))
theorem ok_remainder {f : Addr} {fd : FuncData} {k : Nat} (D : DefAt K mg "remainder" s_remainder ["x", "m"] f fd) {a_NotAllowed : Addr} (C_NotAllowed : ClsAt K mg "NotAllowed" a_NotAllowed) {f_check_modulus : Addr} {fd_check_modulus : FuncData} {k_check_modulus : Nat} (D_check_modulus : DefAt K mg "check_modulus" s_check_modulus ["m"] f_check_modulus fd_check_modulus) (G_check_modulus : FnOk P w K mg base (L2.CX P w) k_check_modulus f_check_modulus fd_check_modulus ["m"] (sp_check_modulus K a_NotAllowed)) (hk_check_modulus : k_check_modulus ≤ k) {f_number_by_rows : Addr} {fd_number_by_rows : FuncData} {k_number_by_rows : Nat} (D_number_by_rows : DefAt K mg "number_by_rows" s_number_by_rows ["x", "rows", "at"] f_number_by_rows fd_number_by_rows) (G_number_by_rows : FnOk P w K mg base CX0 k_number_by_rows f_number_by_rows fd_number_by_rows ["x", "rows", "at"] (sp_number_by_rows K 45)) (hk_number_by_rows : k_number_by_rows ≤ k) {f_power_rows : Addr} {fd_power_rows : FuncData} {k_power_rows : Nat} (D_power_rows : DefAt K mg "power_rows" s_power_rows ["m"] f_power_rows fd_power_rows) (G_power_rows : FnOk P w K mg base CX0 k_power_rows f_power_rows fd_power_rows ["m"] (sp_power_rows K)) (hk_power_rows : k_power_rows ≤ k) : FnOk P w K mg base (L2.CX P w) (k + 1) f fd ["x", "m"] (sp_remainder K a_NotAllowed) := by
  have nd := sc_remainder.nd
  refine D.fn.okX sc_remainder (fun vs H Q E h => spX2.len h) (fun cdv A outer s H vs Q E hr h => ⟨t_remainder K a_NotAllowed E, ?_, pure_remainder h⟩)
  exact (pss_cons (ps_expr (pe_call G_check_modulus (hr.mono hk_check_modulus) rfl D_check_modulus.m D_check_modulus.fn.kp D_check_modulus.b .nil (passes_call (takes_of rfl rfl rfl rfl) (fun _ _ _ _ z => z)) (pa_cons (pv 1) pa_nil)))
      (pss_one (ps_ret (pe_call G_number_by_rows (hr.mono hk_number_by_rows) rfl D_number_by_rows.m D_number_by_rows.fn.kp D_number_by_rows.b .nil pass0 (pa_cons (pv 0) (pa_cons (pe_call G_power_rows (hr.mono hk_power_rows) rfl D_power_rows.m D_power_rows.fn.kp D_power_rows.b .nil pass0 (pa_cons (pv 1) pa_nil)) (pa_cons pe_int pa_nil)))))))
theorem ok_power_remainder {f : Addr} {fd : FuncData} {k : Nat} (D : DefAt K mg "power_remainder" s_power_remainder ["exponent", "m"] f fd) {a_NotAllowed : Addr} (C_NotAllowed : ClsAt K mg "NotAllowed" a_NotAllowed) (X_NotAllowed : ErrC P w K mg base "NotAllowed" a_NotAllowed) (hk3 : 3 ≤ k) {f_check_modulus : Addr} {fd_check_modulus : FuncData} {k_check_modulus : Nat} (D_check_modulus : DefAt K mg "check_modulus" s_check_modulus ["m"] f_check_modulus fd_check_modulus) (G_check_modulus : FnOk P w K mg base (L2.CX P w) k_check_modulus f_check_modulus fd_check_modulus ["m"] (sp_check_modulus K a_NotAllowed)) (hk_check_modulus : k_check_modulus ≤ k) {f_sign_of : Addr} {fd_sign_of : FuncData} {k_sign_of : Nat} (D_sign_of : DefAt K mg "sign_of" s_sign_of ["number"] f_sign_of fd_sign_of) (G_sign_of : FnOk P w K mg base CX0 k_sign_of f_sign_of fd_sign_of ["number"] (sp_sign_of K)) (hk_sign_of : k_sign_of ≤ k) {f_remainder : Addr} {fd_remainder : FuncData} {k_remainder : Nat} (D_remainder : DefAt K mg "remainder" s_remainder ["x", "m"] f_remainder fd_remainder) (G_remainder : FnOk P w K mg base (L2.CX P w) k_remainder f_remainder fd_remainder ["x", "m"] (sp_remainder K a_NotAllowed)) (hk_remainder : k_remainder ≤ k) : FnOk P w K mg base (L2.CX P w) (k + 1) f fd ["exponent", "m"] (sp_power_remainder K a_NotAllowed) := by
  have nd := sc_power_remainder.nd
  refine D.fn.okX sc_power_remainder (fun vs H Q E h => spX2.len h) (fun cdv A outer s H vs Q E hr h => ⟨t_power_remainder K a_NotAllowed E, ?_, pure_power_remainder h⟩)
  exact (pss_cons (ps_expr (pe_call G_check_modulus (hr.mono hk_check_modulus) rfl D_check_modulus.m D_check_modulus.fn.kp D_check_modulus.b .nil (passes_call (takes_of rfl rfl rfl rfl) (fun _ _ _ _ z => z)) (pa_cons (pv 1) pa_nil)))
      (pss_cons (ps_if (pt_cmpR op_lt (pe_call G_sign_of (hr.mono hk_sign_of) rfl D_sign_of.m D_sign_of.fn.kp D_sign_of.b .nil pass0 (pa_cons (pv 0) pa_nil)) pe_int (nomark _)) (pss_one (ps_err rfl (takes_of rfl rfl rfl rfl) rfl X_NotAllowed (hr.mono hk3) (by rfl))) pss_nil)
      (pss_one (ps_ret (pe_call G_remainder (hr.mono hk_remainder) rfl D_remainder.m D_remainder.fn.kp D_remainder.b .nil (passes_call (takes_of rfl rfl rfl rfl) (fun _ _ _ _ z => z)) (pa_cons (pe_tup (pa_cons (pe_tup (pa_cons pe_int (pa_cons (pv 0) pa_nil))) pa_nil)) (pa_cons (pv 1) pa_nil)))))))
theorem ok_multiply {f : Addr} {fd : FuncData} {k : Nat} (D : DefAt K mg "multiply" s_multiply ["first", "second"] f fd) {a_TooLarge : Addr} (C_TooLarge : ClsAt K mg "TooLarge" a_TooLarge) (X_TooLarge : ErrC P w K mg base "TooLarge" a_TooLarge) (hk3 : 3 ≤ k) {f_allowed : Addr} {fd_allowed : FuncData} {k_allowed : Nat} (D_allowed : DefAt K mg "allowed" s_allowed ["number"] f_allowed fd_allowed) (G_allowed : FnOk P w K mg base (L2.CX P w) k_allowed f_allowed fd_allowed ["number"] (sp_allowed K a_TooLarge)) (hk_allowed : k_allowed ≤ k) {f_bare_sum : Addr} {fd_bare_sum : FuncData} {k_bare_sum : Nat} (D_bare_sum : DefAt K mg "bare_sum" s_bare_sum ["terms"] f_bare_sum fd_bare_sum) (G_bare_sum : FnOk P w K mg base CX0 k_bare_sum f_bare_sum fd_bare_sum ["terms"] (sp_bare_sum K)) (hk_bare_sum : k_bare_sum ≤ k) {f_bare_shift : Addr} {fd_bare_shift : FuncData} {k_bare_shift : Nat} (D_bare_shift : DefAt K mg "bare_shift" s_bare_shift ["terms", "places"] f_bare_shift fd_bare_shift) (G_bare_shift : FnOk P w K mg base CX0 k_bare_shift f_bare_shift fd_bare_shift ["terms", "places"] (sp_bare_shift K)) (hk_bare_shift : k_bare_shift ≤ k) (b_len : mg "len" = none) {t_MAX_PRODUCT : Tok} (m_MAX_PRODUCT : mg "MAX_PRODUCT" = some (.int 400 t_MAX_PRODUCT)) : FnOk P w K mg base (L2.CX P w) (k + 1) f fd ["first", "second"] (sp_multiply K a_TooLarge) := by
  have nd := sc_multiply.nd
  refine D.fn.okX sc_multiply (fun vs H Q E h => spX2.len h) (fun cdv A outer s H vs Q E hr h => ⟨t_multiply K a_TooLarge E, ?_, pure_multiply h⟩)
  exact (pss_cons (ps_if (pt_cmpR op_gt (pe_op op_mul (pe_callB call_len_seq (by rfl) b_len PySem.boot_len (pa_cons (pv 0) pa_nil)) (pe_callB call_len_seq (by rfl) b_len PySem.boot_len (pa_cons (pv 1) pa_nil))) (pe_glob rfl m_MAX_PRODUCT ⟨_, rfl⟩) (nomark _)) (pss_one (ps_err rfl (takes_of rfl rfl rfl rfl) rfl X_TooLarge (hr.mono hk3) (by rfl))) pss_nil)
      (pss_one (ps_ret (pe_call G_allowed (hr.mono hk_allowed) rfl D_allowed.m D_allowed.fn.kp D_allowed.b .nil (passes_call (takes_of rfl rfl rfl rfl) (fun _ _ _ _ z => z)) (pa_cons (pe_call G_bare_sum (hr.mono hk_bare_sum) rfl D_bare_sum.m D_bare_sum.fn.kp D_bare_sum.b .nil pass0 (pa_cons (pe_lc2 (own := [("sign", 2), ("exponent", 3), ("other", 4), ("place", 5)]) (g := (gTup K 2 (gCons (gName 2) (gCons (gName 3) gNil)))) (tt := tYes) (g1 := (gTup K 2 (gCons (gName 4) (gCons (gName 5) gNil)))) (tt1 := tYes) (te := (tTup (tCons (tOp xMul (tVar 2) (tVar 4)) (tCons (tVar 5) tNil)))) (vs1 := [4, 5]) rfl nd (pi_tup (pv 0)) (blkOk_by (own := [("sign", 2), ("exponent", 3), ("other", 4), ("place", 5)]) (N := N_multiply) (sc := defScope s_multiply) (by decide +kernel)) (by decide) (fun _ _ _ _ _ => (pg_tup rfl (pgs_cons (pg_name (i := 2) nd rfl (.inl rfl)) (pgs_cons (pg_name (i := 3) nd rfl (.inl rfl)) pgs_nil)))) (fun _ _ _ _ _ => pts_nil) (fun _ _ _ _ _ => (pi_tup (pe_call G_bare_shift (hr.mono hk_bare_shift) rfl D_bare_shift.m D_bare_shift.fn.kp D_bare_shift.b .nil pass0 (pa_cons (pv 1) (pa_cons (pv 3) pa_nil))))) (fun _ _ _ _ _ => (pg_tup rfl (pgs_cons (pg_name (i := 4) nd rfl (.inl rfl)) (pgs_cons (pg_name (i := 5) nd rfl (.inl rfl)) pgs_nil)))) (fun _ _ _ _ _ => pts_nil) (fun _ _ _ _ _ => (pe_tup (pa_cons (pe_op op_mul (pv 2) (pv 4)) (pa_cons (pv 5) pa_nil))))) pa_nil)) pa_nil)))))
theorem ok_negate {f : Addr} {fd : FuncData} {k : Nat} (D : DefAt K mg "negate" s_negate ["number"] f fd) (b_tuple : mg "tuple" = none) : FnOk P w K mg base CX0 (k + 1) f fd ["number"] (sp_negate K) := by
  have nd := sc_negate.nd
  refine D.fn.ok sc_negate (fun vs H Q E h => spF1.len h) (fun cdv A outer s H vs Q E hr h => ⟨t_negate K, ?_, pure_negate h⟩)
  exact (pss_one (ps_ret (pe_tupleOf rfl b_tuple (pe_lc (own := [("sign", 1), ("exponent", 2)]) (g := (gTup K 2 (gCons (gName 1) (gCons (gName 2) gNil)))) (tt := tYes) (te := (tTup (tCons (tUn xNeg (tVar 1)) (tCons (tVar 2) tNil)))) rfl nd (pi_tup (pv 0)) (blkOk_by (own := [("sign", 1), ("exponent", 2)]) (N := N_negate) (sc := defScope s_negate) (by decide +kernel)) (fun _ _ _ _ _ => (pg_tup rfl (pgs_cons (pg_name (i := 1) nd rfl (.inl rfl)) (pgs_cons (pg_name (i := 2) nd rfl (.inl rfl)) pgs_nil)))) (fun _ _ _ _ _ => pts_nil) (fun _ _ _ _ _ => (pe_tup (pa_cons (pe_un un_neg (pv 1)) (pa_cons (pv 2) pa_nil))))))))
theorem ok_add {f : Addr} {fd : FuncData} {k : Nat} (D : DefAt K mg "add" s_add ["first", "second"] f fd) {a_TooLarge : Addr} (C_TooLarge : ClsAt K mg "TooLarge" a_TooLarge) {f_allowed : Addr} {fd_allowed : FuncData} {k_allowed : Nat} (D_allowed : DefAt K mg "allowed" s_allowed ["number"] f_allowed fd_allowed) (G_allowed : FnOk P w K mg base (L2.CX P w) k_allowed f_allowed fd_allowed ["number"] (sp_allowed K a_TooLarge)) (hk_allowed : k_allowed ≤ k) {f_plus : Addr} {fd_plus : FuncData} {k_plus : Nat} (D_plus : DefAt K mg "plus" s_plus ["first", "second"] f_plus fd_plus) (G_plus : FnOk P w K mg base CX0 k_plus f_plus fd_plus ["first", "second"] (sp_plus K)) (hk_plus : k_plus ≤ k) : FnOk P w K mg base (L2.CX P w) (k + 1) f fd ["first", "second"] (sp_add K a_TooLarge) := by
  have nd := sc_add.nd
  refine D.fn.okX sc_add (fun vs H Q E h => spX2.len h) (fun cdv A outer s H vs Q E hr h => ⟨t_add K a_TooLarge E, ?_, pure_add h⟩)
  exact (pss_one (ps_ret (pe_call G_allowed (hr.mono hk_allowed) rfl D_allowed.m D_allowed.fn.kp D_allowed.b .nil (passes_call (takes_of rfl rfl rfl rfl) (fun _ _ _ _ z => z)) (pa_cons (pe_call G_plus (hr.mono hk_plus) rfl D_plus.m D_plus.fn.kp D_plus.b .nil pass0 (pa_cons (pv 0) (pa_cons (pv 1) pa_nil))) pa_nil))))
theorem ok_subtract {f : Addr} {fd : FuncData} {k : Nat} (D : DefAt K mg "subtract" s_subtract ["first", "second"] f fd) {a_TooLarge : Addr} (C_TooLarge : ClsAt K mg "TooLarge" a_TooLarge) {f_add : Addr} {fd_add : FuncData} {k_add : Nat} (D_add : DefAt K mg "add" s_add ["first", "second"] f_add fd_add) (G_add : FnOk P w K mg base (L2.CX P w) k_add f_add fd_add ["first", "second"] (sp_add K a_TooLarge)) (hk_add : k_add ≤ k) {f_negate : Addr} {fd_negate : FuncData} {k_negate : Nat} (D_negate : DefAt K mg "negate" s_negate ["number"] f_negate fd_negate) (G_negate : FnOk P w K mg base CX0 k_negate f_negate fd_negate ["number"] (sp_negate K)) (hk_negate : k_negate ≤ k) : FnOk P w K mg base (L2.CX P w) (k + 1) f fd ["first", "second"] (sp_subtract K a_TooLarge) := by
  have nd := sc_subtract.nd
  refine D.fn.okX sc_subtract (fun vs H Q E h => spX2.len h) (fun cdv A outer s H vs Q E hr h => ⟨t_subtract K a_TooLarge E, ?_, pure_subtract h⟩)
  exact (pss_one (ps_ret (pe_call G_add (hr.mono hk_add) rfl D_add.m D_add.fn.kp D_add.b .nil (passes_call (takes_of rfl rfl rfl rfl) (fun _ _ _ _ z => z)) (pa_cons (pv 0) (pa_cons (pe_call G_negate (hr.mono hk_negate) rfl D_negate.m D_negate.fn.kp D_negate.b .nil pass0 (pa_cons (pv 1) pa_nil)) pa_nil)))))
theorem ok_sum_terms {f : Addr} {fd : FuncData} {k : Nat} (D : DefAt K mg "sum_terms" s_sum_terms ["terms"] f fd) {a_NotAllowed : Addr} (C_NotAllowed : ClsAt K mg "NotAllowed" a_NotAllowed) {a_TooLarge : Addr} (C_TooLarge : ClsAt K mg "TooLarge" a_TooLarge) (X_NotAllowed : ErrC P w K mg base "NotAllowed" a_NotAllowed) (X_TooLarge : ErrC P w K mg base "TooLarge" a_TooLarge) (hk3 : 3 ≤ k) {f_sign_of : Addr} {fd_sign_of : FuncData} {k_sign_of : Nat} (D_sign_of : DefAt K mg "sign_of" s_sign_of ["number"] f_sign_of fd_sign_of) (G_sign_of : FnOk P w K mg base CX0 k_sign_of f_sign_of fd_sign_of ["number"] (sp_sign_of K)) (hk_sign_of : k_sign_of ≤ k) {f_allowed : Addr} {fd_allowed : FuncData} {k_allowed : Nat} (D_allowed : DefAt K mg "allowed" s_allowed ["number"] f_allowed fd_allowed) (G_allowed : FnOk P w K mg base (L2.CX P w) k_allowed f_allowed fd_allowed ["number"] (sp_allowed K a_TooLarge)) (hk_allowed : k_allowed ≤ k) {f_bare_sum : Addr} {fd_bare_sum : FuncData} {k_bare_sum : Nat} (D_bare_sum : DefAt K mg "bare_sum" s_bare_sum ["terms"] f_bare_sum fd_bare_sum) (G_bare_sum : FnOk P w K mg base CX0 k_bare_sum f_bare_sum fd_bare_sum ["terms"] (sp_bare_sum K)) (hk_bare_sum : k_bare_sum ≤ k) (b_len : mg "len" = none) {t_MAX_TERMS : Tok} (m_MAX_TERMS : mg "MAX_TERMS" = some (.int 400 t_MAX_TERMS)) : FnOk P w K mg base (L2.CX P w) (k + 1) f fd ["terms"] (sp_sum_terms K a_NotAllowed a_TooLarge) := by
  have nd := sc_sum_terms.nd
  refine D.fn.okX sc_sum_terms (fun vs H Q E h => spX1.len h) (fun cdv A outer s H vs Q E hr h => ⟨t_sum_terms K a_NotAllowed a_TooLarge E, ?_, pure_sum_terms h⟩)
  exact (pss_cons (ps_for (passes_of rfl) rfl (pi_list (pv 0)) (pg_tup rfl (pgs_cons (pg_name (i := 1) nd rfl (.inl rfl)) (pgs_cons (pg_name (i := 2) nd rfl (.inl rfl)) pgs_nil))) (pss_one (ps_if (PW.pt (pw_or (pt_cmpR op_notIn_seq (pv 1) (pe_tup (pa_cons pe_int (pa_cons (pe_un un_neg pe_int) pa_nil))) (by rfl)) (pw_or1 (pt_cmpR op_lt (pe_call G_sign_of (hr.mono hk_sign_of) rfl D_sign_of.m D_sign_of.fn.kp D_sign_of.b .nil pass0 (pa_cons (pv 2) pa_nil)) pe_int (nomark _))))) (pss_one (ps_err rfl (takes_of rfl rfl rfl rfl) rfl X_NotAllowed (hr.mono hk3) (by rfl))) pss_nil)))
      (pss_cons (ps_if (pt_cmpR op_gt (pe_callB call_len_seq (by rfl) b_len PySem.boot_len (pa_cons (pv 0) pa_nil)) (pe_glob rfl m_MAX_TERMS ⟨_, rfl⟩) (nomark _)) (pss_one (ps_err rfl (takes_of rfl rfl rfl rfl) rfl X_TooLarge (hr.mono hk3) (by rfl))) pss_nil)
      (pss_one (ps_ret (pe_call G_allowed (hr.mono hk_allowed) rfl D_allowed.m D_allowed.fn.kp D_allowed.b .nil (passes_call (takes_of rfl rfl rfl rfl) (fun _ _ _ _ z => z)) (pa_cons (pe_call G_bare_sum (hr.mono hk_bare_sum) rfl D_bare_sum.m D_bare_sum.fn.kp D_bare_sum.b .nil pass0 (pa_cons (pv 0) pa_nil)) pa_nil))))))
theorem ok_law_cell {f : Addr} {fd : FuncData} {k : Nat} (D : DefAt K mg "_law_cell" s_law_cell ["script", "k"] f fd) (b_len : mg "len" = none) : FnOk P w K mg base CX0 (k + 1) f fd ["script", "k"] (sp_law_cell K) := by
  have nd := sc_law_cell.nd
  refine D.fn.ok sc_law_cell (fun vs H Q E h => spF2.len h) (fun cdv A outer s H vs Q E hr h => ⟨t_law_cell K, ?_, pure_law_cell h⟩)
  exact (pss_cons (ps_if (pt_cmpR op_lt (pv 1) (pe_callB call_len_seq (by rfl) b_len PySem.boot_len (pa_cons (pv 0) pa_nil)) (nomark _)) (pss_one (ps_ret (pe_ix ix_list (pv 0) (pv 1) (fun _ _ => rfl)))) pss_nil)
      (pss_one (ps_ret pe_int)))
theorem ok_law_numbers {f : Addr} {fd : FuncData} {k : Nat} (D : DefAt K mg "_law_numbers" s_law_numbers ["cell", "k", "many"] f fd) (b_range : mg "range" = none) (b_int : mg "int" = none) : FnOk P w K mg base CX0 (k + 1) f fd ["cell", "k", "many"] (sp_law_numbers K) := by
  have nd := sc_law_numbers.nd
  refine D.fn.ok sc_law_numbers (fun vs H Q E h => spF3.len h) (fun cdv A outer s H vs Q E hr h => ⟨t_law_numbers K, ?_, pure_law_numbers h⟩)
  exact (pss_cons (ps_set (i := 3) nd rfl (.inl rfl) (pe_lst pa_nil))
      (pss_cons (ps_if (pt_cmpR op_ge (pv 0) (pe_op op_pow pe_int pe_int) (nomark _)) (pss_cons (ps_set (i := 6) nd rfl (.inl rfl) (pv 0))
      (pss_cons (ps_for PassesOwn.never rfl (pi_range1 rfl b_range (pa_cons (pv 2) pa_nil)) (pg_name (i := 5) nd rfl (.inl rfl)) (pss_cons (ps_expr (pe_bm PySem.F.plainAttrs_list PySem.F.slot_list_append PySem.F.type_list_append mt_append (pv 3) (pa_cons (pe_op op_mod (pe_callTy call_int1 (by rfl) b_int (by decide +kernel) (pa_cons (pv 6) pa_nil)) pe_int) pa_nil)))
      (pss_one (ps_set (i := 6) nd rfl (.inl rfl) (pe_op op_fdiv (pv 6) pe_int)))))
      (pss_one (ps_ret (pv 3))))) pss_nil)
      (pss_cons (ps_set (i := 4) nd rfl (.inl rfl) (pe_op op_mod (pe_callTy call_int1 (by rfl) b_int (by decide +kernel) (pa_cons (pe_op op_add (pe_op op_add (pe_op op_mul (pv 0) pe_int) (pe_op op_mul (pv 1) pe_int)) pe_int) pa_nil)) pe_int))
      (pss_cons (ps_for PassesOwn.never rfl (pi_range1 rfl b_range (pa_cons (pv 2) pa_nil)) (pg_name (i := 5) nd rfl (.inl rfl)) (pss_cons (ps_set (i := 4) nd rfl (.inl rfl) (pe_op op_mod (pe_callTy call_int1 (by rfl) b_int (by decide +kernel) (pa_cons (pe_op op_add (pe_op op_add (pe_op op_mul (pv 4) pe_int) (pe_op op_mul (pv 5) pe_int)) pe_int) pa_nil)) pe_int))
      (pss_cons (ps_set (i := 7) nd rfl (.inl rfl) (pe_op op_mod (pe_callTy call_int1 (by rfl) b_int (by decide +kernel) (pa_cons (pe_op op_add (pe_op op_add (pe_op op_mul (pv 4) (pv 4)) (pe_op op_mul (pv 1) pe_int)) (pv 5)) pa_nil)) pe_int))
      (pss_one (ps_expr (pe_bm PySem.F.plainAttrs_list PySem.F.slot_list_append PySem.F.type_list_append mt_append (pv 3) (pa_cons (pe_op op_mod (pe_callTy call_int1 (by rfl) b_int (by decide +kernel) (pa_cons (pe_op op_fdiv (pv 7) pe_int) pa_nil)) pe_int) pa_nil)))))))
      (pss_one (ps_ret (pv 3)))))))
theorem ok_law_great {f : Addr} {fd : FuncData} {k : Nat} {d : Nat} (D : DefAt K mg "_law_great" s_law_great ["numbers", "at", "depth"] f fd) {a_NotAllowed : Addr} (C_NotAllowed : ClsAt K mg "NotAllowed" a_NotAllowed) {a_TooLarge : Addr} (C_TooLarge : ClsAt K mg "TooLarge" a_TooLarge) {f_of_int : Addr} {fd_of_int : FuncData} {k_of_int : Nat} (D_of_int : DefAt K mg "of_int" s_of_int ["value"] f_of_int fd_of_int) (G_of_int : FnOk P w K mg base (L2.CX P w) k_of_int f_of_int fd_of_int ["value"] (sp_of_int K a_NotAllowed a_TooLarge)) (hk_of_int : k_of_int ≤ k) {f_sign_of : Addr} {fd_sign_of : FuncData} {k_sign_of : Nat} (D_sign_of : DefAt K mg "sign_of" s_sign_of ["number"] f_sign_of fd_sign_of) (G_sign_of : FnOk P w K mg base CX0 k_sign_of f_sign_of fd_sign_of ["number"] (sp_sign_of K)) (hk_sign_of : k_sign_of ≤ k) {f_negate : Addr} {fd_negate : FuncData} {k_negate : Nat} (D_negate : DefAt K mg "negate" s_negate ["number"] f_negate fd_negate) (G_negate : FnOk P w K mg base CX0 k_negate f_negate fd_negate ["number"] (sp_negate K)) (hk_negate : k_negate ≤ k) {f_sum_terms : Addr} {fd_sum_terms : FuncData} {k_sum_terms : Nat} (D_sum_terms : DefAt K mg "sum_terms" s_sum_terms ["terms"] f_sum_terms fd_sum_terms) (G_sum_terms : FnOk P w K mg base (L2.CX P w) k_sum_terms f_sum_terms fd_sum_terms ["terms"] (sp_sum_terms K a_NotAllowed a_TooLarge)) (hk_sum_terms : k_sum_terms ≤ k) (b_int : mg "int" = none) (b_len : mg "len" = none) (b_range : mg "range" = none) (G__law_great : FnOk P w K mg base CX0 k f fd ["numbers", "at", "depth"] (sp_law_great K d)) : FnOk P w K mg base CX0 (k + 1) f fd ["numbers", "at", "depth"] (sp_law_great K (d + 1)) := by
  have D__law_great := D
  have nd := sc_law_great.nd
  refine D.fn.ok sc_law_great (fun vs H Q E h => spF3.len h) (fun cdv A outer s H vs Q E hr h => ⟨t_law_great K a_NotAllowed a_TooLarge d, ?_, pure_law_great h⟩)
  exact (pss_cons (ps_set (i := 3) nd rfl (.inl rfl) (pe_callTy call_int1 (by rfl) b_int (by decide +kernel) (pa_cons (pe_ix ix_list (pv 0) (pe_op op_mod (pe_callTy call_int1 (by rfl) b_int (by decide +kernel) (pa_cons (pv 1) pa_nil)) (pe_callB call_len_seq (by rfl) b_len PySem.boot_len (pa_cons (pv 0) pa_nil))) (fun _ _ => rfl)) pa_nil)))
      (pss_cons (ps_if (pt_cmpR op_eq (pv 2) pe_int (nomark _)) (pss_one (ps_ret (pe_call G_of_int (hr.mono hk_of_int) rfl D_of_int.m D_of_int.fn.kp D_of_int.b .nil passL (pa_cons (pe_op op_sub (pe_op op_mod (pv 3) pe_int) pe_int) pa_nil)))) pss_nil)
      (pss_cons (ps_set (i := 4) nd rfl (.inl rfl) (pe_lst pa_nil))
      (pss_cons (ps_for PassesOwn.never rfl (pi_range1 rfl b_range (pa_cons (pe_op op_add pe_int (pe_op op_mod (pe_callTy call_int1 (by rfl) b_int (by decide +kernel) (pa_cons (pv 3) pa_nil)) pe_int)) pa_nil)) (pg_name (i := 5) nd rfl (.inl rfl)) (pss_cons (ps_set (i := 6) nd rfl (.inl rfl) (pe_call G__law_great hr rfl D__law_great.m D__law_great.fn.kp D__law_great.b .nil pass0 (pa_cons (pv 0) (pa_cons (pe_op op_add (pe_op op_add (pe_op op_mul pe_int (pv 1)) (pv 5)) pe_int) (pa_cons (pe_op op_sub (pe_op op_sub (pv 2) pe_int) (pe_callTy call_int1 (by rfl) b_int (by decide +kernel) (pa_cons (pe_and (pe_cmpR op_gt (pv 5) pe_int (nomark _)) (pe_one (pe_cmpR op_gt (pv 2) pe_int (nomark _)))) pa_nil))) pa_nil)))))
      (pss_cons (ps_if (pt_cmpR op_lt (pe_call G_sign_of (hr.mono hk_sign_of) rfl D_sign_of.m D_sign_of.fn.kp D_sign_of.b .nil pass0 (pa_cons (pv 6) pa_nil)) pe_int (nomark _)) (pss_one (ps_set (i := 6) nd rfl (.inl rfl) (pe_call G_negate (hr.mono hk_negate) rfl D_negate.m D_negate.fn.kp D_negate.b .nil pass0 (pa_cons (pv 6) pa_nil)))) pss_nil)
      (pss_one (ps_expr (pe_bm PySem.F.plainAttrs_list PySem.F.slot_list_append PySem.F.type_list_append mt_append (pv 4) (pa_cons (pe_tup (pa_cons (pe_op op_sub pe_int (pe_op op_mul pe_int (pe_op op_mod (pe_op op_fdiv (pv 3) (pe_op op_add pe_int (pv 5))) pe_int))) (pa_cons (pv 6) pa_nil))) pa_nil)))))))
      (pss_one (ps_ret (pe_call G_sum_terms (hr.mono hk_sum_terms) rfl D_sum_terms.m D_sum_terms.fn.kp D_sum_terms.b .nil passL (pa_cons (pv 4) pa_nil))))))))
theorem ok_law_small {f : Addr} {fd : FuncData} {k : Nat} {d : Nat} (D : DefAt K mg "_law_small" s_law_small ["number"] f fd) (G__law_small : FnOk P w K mg base CX0 k f fd ["number"] (sp_law_small K d)) : FnOk P w K mg base CX0 (k + 1) f fd ["number"] (sp_law_small K (d + 1)) := by
  have D__law_small := D
  have nd := sc_law_small.nd
  refine D.fn.ok sc_law_small (fun vs H Q E h => spF1.len h) (fun cdv A outer s H vs Q E hr h => ⟨t_law_small K d, ?_, pure_law_small h⟩)
  exact (pss_cons (ps_set (i := 1) nd rfl (.inl rfl) pe_int)
      (pss_cons (ps_for PassesOwn.never rfl (pi_tup (pv 0)) (pg_tup rfl (pgs_cons (pg_name (i := 2) nd rfl (.inl rfl)) (pgs_cons (pg_name (i := 3) nd rfl (.inl rfl)) pgs_nil))) (pss_cons (ps_set (i := 4) nd rfl (.inl rfl) (pe_call G__law_small hr rfl D__law_small.m D__law_small.fn.kp D__law_small.b .nil pass0 (pa_cons (pv 3) pa_nil)))
      (pss_cons (ps_if (PW.pt (pw_or (pt_cmpR op_isN (pv 4) pe_non (nomark _)) (pw_or1 (pt_cmpR op_gt (pv 4) pe_int (nomark _))))) (pss_one (ps_ret pe_non)) pss_nil)
      (pss_one (ps_set (i := 1) nd rfl (.inl rfl) (pe_op op_add (pv 1) (pe_op op_mul (pv 2) (pe_op op_shl pe_int (pv 4)))))))))
      (pss_one (ps_ret (pv 1)))))
theorem ok_law_remainder {f : Addr} {fd : FuncData} {k : Nat} {d : Nat} (D : DefAt K mg "_law_remainder" s_law_remainder ["number", "m"] f fd) {f__law_power : Addr} {fd__law_power : FuncData} {k__law_power : Nat} (D__law_power : DefAt K mg "_law_power" s_law_power ["exponent", "m"] f__law_power fd__law_power) (G__law_power : FnOk P w K mg base CX0 k__law_power f__law_power fd__law_power ["exponent", "m"] (sp_law_power K d)) (hk__law_power : k__law_power ≤ k) (b_int : mg "int" = none) : FnOk P w K mg base CX0 (k + 1) f fd ["number", "m"] (sp_law_remainder K (d + 1)) := by
  have nd := sc_law_remainder.nd
  refine D.fn.ok sc_law_remainder (fun vs H Q E h => spF2.len h) (fun cdv A outer s H vs Q E hr h => ⟨t_law_remainder K d, ?_, pure_law_remainder h⟩)
  exact (pss_cons (ps_set (i := 2) nd rfl (.inl rfl) pe_int)
      (pss_cons (ps_for PassesOwn.never rfl (pi_tup (pv 0)) (pg_tup rfl (pgs_cons (pg_name (i := 3) nd rfl (.inl rfl)) (pgs_cons (pg_name (i := 4) nd rfl (.inl rfl)) pgs_nil))) (pss_one (ps_set (i := 2) nd rfl (.inl rfl) (pe_op op_add (pv 2) (pe_op op_mul (pv 3) (pe_call G__law_power (hr.mono hk__law_power) rfl D__law_power.m D__law_power.fn.kp D__law_power.b .nil pass0 (pa_cons (pv 4) (pa_cons (pv 1) pa_nil))))))))
      (pss_one (ps_ret (pe_op op_mod (pe_callTy call_int1 (by rfl) b_int (by decide +kernel) (pa_cons (pv 2) pa_nil)) (pv 1))))))
theorem ok_law_power {f : Addr} {fd : FuncData} {k : Nat} {d : Nat} (D : DefAt K mg "_law_power" s_law_power ["exponent", "m"] f fd) {f__law_small : Addr} {fd__law_small : FuncData} {k__law_small : Nat} (D__law_small : DefAt K mg "_law_small" s_law_small ["number"] f__law_small fd__law_small) (G__law_small : FnOk P w K mg base CX0 k__law_small f__law_small fd__law_small ["number"] (sp_law_small K 14)) (hk__law_small : k__law_small ≤ k) {f__law_remainder : Addr} {fd__law_remainder : FuncData} {k__law_remainder : Nat} (D__law_remainder : DefAt K mg "_law_remainder" s_law_remainder ["number", "m"] f__law_remainder fd__law_remainder) (G__law_remainder : FnOk P w K mg base CX0 k__law_remainder f__law_remainder fd__law_remainder ["number", "m"] (sp_law_remainder K d)) (hk__law_remainder : k__law_remainder ≤ k) (b_range : mg "range" = none) (b_int : mg "int" = none) (b_len : mg "len" = none) : FnOk P w K mg base CX0 (k + 1) f fd ["exponent", "m"] (sp_law_power K d) := by
  have nd := sc_law_power.nd
  refine D.fn.ok sc_law_power (fun vs H Q E h => spF2.len h) (fun cdv A outer s H vs Q E hr h => ⟨t_law_power K d, ?_, pure_law_power h⟩)
  exact (pss_cons (ps_set (i := 2) nd rfl (.inl rfl) pe_dnewK)
      (pss_cons (ps_set (i := 3) nd rfl (.inl rfl) (pe_lst pa_nil))
      (pss_cons (ps_set (i := 4) nd rfl (.inl rfl) (pe_op op_mod pe_int (pv 1)))
      (pss_cons (ps_for PassesOwn.never rfl (pi_range1 rfl b_range (pa_cons pe_int pa_nil)) (pg_name (i := 5) nd rfl (.inl rfl)) (pss_cons (ps_if (pt_cmp (pc_din (hu_of hr) (pv 4) (pv 2))) (pss_one ps_break) pss_nil)
      (pss_cons (ps_dput (hu_of hr) (pv 2) (pv 4) (pv 5) rfl)
      (pss_cons (ps_expr (pe_bm PySem.F.plainAttrs_list PySem.F.slot_list_append PySem.F.type_list_append mt_append (pv 3) (pa_cons (pv 4) pa_nil)))
      (pss_one (ps_set (i := 4) nd rfl (.inl rfl) (pe_op op_mod (pe_callTy call_int1 (by rfl) b_int (by decide +kernel) (pa_cons (pe_op op_mul (pv 4) pe_int) pa_nil)) (pv 1))))))))
      (pss_cons (ps_set (i := 6) nd rfl (.inl rfl) (pe_dget (hu_of hr) (pv 2) (pv 4) (fun _ _ => rfl)))
      (pss_cons (ps_set (i := 7) nd rfl (.inl rfl) (pe_op op_sub (pe_callB call_len_seq (by rfl) b_len PySem.boot_len (pa_cons (pv 3) pa_nil)) (pv 6)))
      (pss_cons (ps_set (i := 8) nd rfl (.inl rfl) (pe_call G__law_small (hr.mono hk__law_small) rfl D__law_small.m D__law_small.fn.kp D__law_small.b .nil pass0 (pa_cons (pv 0) pa_nil)))
      (pss_cons (ps_if (PW.pt (pw_and (pt_cmpR op_notN (pv 8) pe_non (nomark _)) (pw_and1 (pt_cmpR op_lt (pv 8) (pe_callB call_len_seq (by rfl) b_len PySem.boot_len (pa_cons (pv 3) pa_nil)) (nomark _))))) (pss_one (ps_ret (pe_ix ix_list (pv 3) (pv 8) (fun _ _ => rfl)))) pss_nil)
      (pss_one (ps_ret (pe_ix ix_list (pv 3) (pe_op op_add (pv 6) (pe_op op_mod (pe_callTy call_int1 (by rfl) b_int (by decide +kernel) (pa_cons (pe_op op_sub (pe_call G__law_remainder (hr.mono hk__law_remainder) rfl D__law_remainder.m D__law_remainder.fn.kp D__law_remainder.b .nil pass0 (pa_cons (pv 0) (pa_cons (pv 7) pa_nil))) (pv 6)) pa_nil)) (pv 7))) (fun _ _ => rfl))))))))))))
theorem ok_law_pair {f : Addr} {fd : FuncData} {k : Nat} (D : DefAt K mg "_law_pair" s_law_pair ["first", "second", "m"] f fd) {a_NotAllowed : Addr} (C_NotAllowed : ClsAt K mg "NotAllowed" a_NotAllowed) {a_TooLarge : Addr} (C_TooLarge : ClsAt K mg "TooLarge" a_TooLarge) {f_remainder : Addr} {fd_remainder : FuncData} {k_remainder : Nat} (D_remainder : DefAt K mg "remainder" s_remainder ["x", "m"] f_remainder fd_remainder) (G_remainder : FnOk P w K mg base (L2.CX P w) k_remainder f_remainder fd_remainder ["x", "m"] (sp_remainder K a_NotAllowed)) (hk_remainder : k_remainder ≤ k) {f_add : Addr} {fd_add : FuncData} {k_add : Nat} (D_add : DefAt K mg "add" s_add ["first", "second"] f_add fd_add) (G_add : FnOk P w K mg base (L2.CX P w) k_add f_add fd_add ["first", "second"] (sp_add K a_TooLarge)) (hk_add : k_add ≤ k) {f_subtract : Addr} {fd_subtract : FuncData} {k_subtract : Nat} (D_subtract : DefAt K mg "subtract" s_subtract ["first", "second"] f_subtract fd_subtract) (G_subtract : FnOk P w K mg base (L2.CX P w) k_subtract f_subtract fd_subtract ["first", "second"] (sp_subtract K a_TooLarge)) (hk_subtract : k_subtract ≤ k) {f_multiply : Addr} {fd_multiply : FuncData} {k_multiply : Nat} (D_multiply : DefAt K mg "multiply" s_multiply ["first", "second"] f_multiply fd_multiply) (G_multiply : FnOk P w K mg base (L2.CX P w) k_multiply f_multiply fd_multiply ["first", "second"] (sp_multiply K a_TooLarge)) (hk_multiply : k_multiply ≤ k) (b_int : mg "int" = none) (hex : PySem.W.exmOne K (.ref a_TooLarge) (.ref a_TooLarge) = some true) : FnOk P w K mg base CX0 (k + 1) f fd ["first", "second", "m"] (sp_law_pair K) := by
  have nd := sc_law_pair.nd
  refine D.fn.ok sc_law_pair (fun vs H Q E h => spF3.len h) (fun cdv A outer s H vs Q E hr h => ⟨t_law_pair K a_NotAllowed a_TooLarge, ?_, pure_law_pair hex h⟩)
  exact (pss_cons (ps_set (i := 3) nd rfl (.inl rfl) (pe_call G_remainder (hr.mono hk_remainder) rfl D_remainder.m D_remainder.fn.kp D_remainder.b .nil passL (pa_cons (pv 0) (pa_cons (pv 2) pa_nil))))
      (pss_cons (ps_set (i := 4) nd rfl (.inl rfl) (pe_call G_remainder (hr.mono hk_remainder) rfl D_remainder.m D_remainder.fn.kp D_remainder.b .nil passL (pa_cons (pv 1) (pa_cons (pv 2) pa_nil))))
      (pss_one (ps_try_only rfl rfl ⟨rfl, by decide, .inl C_TooLarge.m⟩ takes0 (tb := fun W => (tSeq (tIfS (tTest (tOp rNe (tCallS (sp_remainder K a_NotAllowed) (WE W) (tCons (tCallS (sp_add K a_TooLarge) (WE W) (tCons (tVar 0) (tCons (tVar 1) tNil))) (tCons (tVar 2) tNil))) (tOp xMod (tCB xInt1 (tCons (tOp xAdd (tVar 3) (tVar 4)) tNil)) (tVar 2)))) (tRet (tC (.bl false))) tNext)
    (tSeq (tIfS (tTest (tOp rNe (tCallS (sp_remainder K a_NotAllowed) (WE W) (tCons (tCallS (sp_subtract K a_TooLarge) (WE W) (tCons (tVar 0) (tCons (tVar 1) tNil))) (tCons (tVar 2) tNil))) (tOp xMod (tCB xInt1 (tCons (tOp xSub (tVar 3) (tVar 4)) tNil)) (tVar 2)))) (tRet (tC (.bl false))) tNext)
    (tRet (tOp rEq (tCallS (sp_remainder K a_NotAllowed) (WE W) (tCons (tCallS (sp_multiply K a_TooLarge) (WE W) (tCons (tVar 0) (tCons (tVar 1) tNil))) (tCons (tVar 2) tNil))) (tOp xMod (tCB xInt1 (tCons (tOp xMul (tVar 3) (tVar 4)) tNil)) (tVar 2))))))) (fun W pn xe tk hpo => (pss_cons (ps_if (pt_cmpR op_ne (pe_callS G_remainder (hr.mono hk_remainder) rfl D_remainder.m D_remainder.fn.kp D_remainder.b (fun σ => passAt tk σ) (pa_cons (pe_callS G_add (hr.mono hk_add) rfl D_add.m D_add.fn.kp D_add.b (fun σ => passAt tk σ) (pa_cons (pv 0) (pa_cons (pv 1) pa_nil))) (pa_cons (pv 2) pa_nil))) (pe_op op_mod (pe_callTy call_int1 (by rfl) b_int (by decide +kernel) (pa_cons (pe_op op_add (pv 3) (pv 4)) pa_nil)) (pv 2)) (nomark _)) (pss_one (ps_ret pe_bl)) pss_nil)
      (pss_cons (ps_if (pt_cmpR op_ne (pe_callS G_remainder (hr.mono hk_remainder) rfl D_remainder.m D_remainder.fn.kp D_remainder.b (fun σ => passAt tk σ) (pa_cons (pe_callS G_subtract (hr.mono hk_subtract) rfl D_subtract.m D_subtract.fn.kp D_subtract.b (fun σ => passAt tk σ) (pa_cons (pv 0) (pa_cons (pv 1) pa_nil))) (pa_cons (pv 2) pa_nil))) (pe_op op_mod (pe_callTy call_int1 (by rfl) b_int (by decide +kernel) (pa_cons (pe_op op_sub (pv 3) (pv 4)) pa_nil)) (pv 2)) (nomark _)) (pss_one (ps_ret pe_bl)) pss_nil)
      (pss_one (ps_ret (pe_cmpR op_eq (pe_callS G_remainder (hr.mono hk_remainder) rfl D_remainder.m D_remainder.fn.kp D_remainder.b (fun σ => passAt tk σ) (pa_cons (pe_callS G_multiply (hr.mono hk_multiply) rfl D_multiply.m D_multiply.fn.kp D_multiply.b (fun σ => passAt tk σ) (pa_cons (pv 0) (pa_cons (pv 1) pa_nil))) (pa_cons (pv 2) pa_nil))) (pe_op op_mod (pe_callTy call_int1 (by rfl) b_int (by decide +kernel) (pa_cons (pe_op op_mul (pv 3) (pv 4)) pa_nil)) (pv 2)) (nomark _))))))) (ts := fun a cls d => (tRet (tC (.bl true)))) (fun a oe cls d pn hz hf => (pss_one (ps_ret pe_bl)))))))
theorem ok_law {f : Addr} {fd : FuncData} {k : Nat} (D : DefAt K mg "law" s_law ["script"] f fd) {a_NotAllowed : Addr} (C_NotAllowed : ClsAt K mg "NotAllowed" a_NotAllowed) {f__law_numbers : Addr} {fd__law_numbers : FuncData} {k__law_numbers : Nat} (D__law_numbers : DefAt K mg "_law_numbers" s_law_numbers ["cell", "k", "many"] f__law_numbers fd__law_numbers) (G__law_numbers : FnOk P w K mg base CX0 k__law_numbers f__law_numbers fd__law_numbers ["cell", "k", "many"] (sp_law_numbers K)) (hk__law_numbers : k__law_numbers ≤ k) {f__law_cell : Addr} {fd__law_cell : FuncData} {k__law_cell : Nat} (D__law_cell : DefAt K mg "_law_cell" s_law_cell ["script", "k"] f__law_cell fd__law_cell) (G__law_cell : FnOk P w K mg base CX0 k__law_cell f__law_cell fd__law_cell ["script", "k"] (sp_law_cell K)) (hk__law_cell : k__law_cell ≤ k) {f__law_great : Addr} {fd__law_great : FuncData} {k__law_great : Nat} (D__law_great : DefAt K mg "_law_great" s_law_great ["numbers", "at", "depth"] f__law_great fd__law_great) (G__law_great : FnOk P w K mg base CX0 k__law_great f__law_great fd__law_great ["numbers", "at", "depth"] (sp_law_great K 5)) (hk__law_great : k__law_great ≤ k) {f_remainder : Addr} {fd_remainder : FuncData} {k_remainder : Nat} (D_remainder : DefAt K mg "remainder" s_remainder ["x", "m"] f_remainder fd_remainder) (G_remainder : FnOk P w K mg base (L2.CX P w) k_remainder f_remainder fd_remainder ["x", "m"] (sp_remainder K a_NotAllowed)) (hk_remainder : k_remainder ≤ k) {f__law_remainder : Addr} {fd__law_remainder : FuncData} {k__law_remainder : Nat} (D__law_remainder : DefAt K mg "_law_remainder" s_law_remainder ["number", "m"] f__law_remainder fd__law_remainder) (G__law_remainder : FnOk P w K mg base CX0 k__law_remainder f__law_remainder fd__law_remainder ["number", "m"] (sp_law_remainder K 14)) (hk__law_remainder : k__law_remainder ≤ k) {f__law_pair : Addr} {fd__law_pair : FuncData} {k__law_pair : Nat} (D__law_pair : DefAt K mg "_law_pair" s_law_pair ["first", "second", "m"] f__law_pair fd__law_pair) (G__law_pair : FnOk P w K mg base CX0 k__law_pair f__law_pair fd__law_pair ["first", "second", "m"] (sp_law_pair K)) (hk__law_pair : k__law_pair ≤ k) {f_sign_of : Addr} {fd_sign_of : FuncData} {k_sign_of : Nat} (D_sign_of : DefAt K mg "sign_of" s_sign_of ["number"] f_sign_of fd_sign_of) (G_sign_of : FnOk P w K mg base CX0 k_sign_of f_sign_of fd_sign_of ["number"] (sp_sign_of K)) (hk_sign_of : k_sign_of ≤ k) {f_negate : Addr} {fd_negate : FuncData} {k_negate : Nat} (D_negate : DefAt K mg "negate" s_negate ["number"] f_negate fd_negate) (G_negate : FnOk P w K mg base CX0 k_negate f_negate fd_negate ["number"] (sp_negate K)) (hk_negate : k_negate ≤ k) {f_power_remainder : Addr} {fd_power_remainder : FuncData} {k_power_remainder : Nat} (D_power_remainder : DefAt K mg "power_remainder" s_power_remainder ["exponent", "m"] f_power_remainder fd_power_remainder) (G_power_remainder : FnOk P w K mg base (L2.CX P w) k_power_remainder f_power_remainder fd_power_remainder ["exponent", "m"] (sp_power_remainder K a_NotAllowed)) (hk_power_remainder : k_power_remainder ≤ k) {f__law_power : Addr} {fd__law_power : FuncData} {k__law_power : Nat} (D__law_power : DefAt K mg "_law_power" s_law_power ["exponent", "m"] f__law_power fd__law_power) (G__law_power : FnOk P w K mg base CX0 k__law_power f__law_power fd__law_power ["exponent", "m"] (sp_law_power K 13)) (hk__law_power : k__law_power ≤ k) (b_range : mg "range" = none) (b_max : mg "max" = none) (b_min : mg "min" = none) (b_len : mg "len" = none) (b_int : mg "int" = none) : FnOk P w K mg base CX0 (k + 1) f fd ["script"] (sp_law K) := by
  have nd := sc_law.nd
  refine D.fn.ok sc_law (fun vs H Q E h => spF1.len h) (fun cdv A outer s H vs Q E hr h => ⟨t_law K a_NotAllowed, ?_, pure_law h⟩)
  exact (pss_cons (ps_for PassesOwn.never rfl (pi_range1 rfl b_range (pa_cons (pe_callB (call_max2 rfl) (by rfl) b_max (by decide +kernel) (pa_cons pe_int (pa_cons (pe_callB (call_min2 rfl) (by rfl) b_min (by decide +kernel) (pa_cons (pe_callB call_len_seq (by rfl) b_len PySem.boot_len (pa_cons (pv 0) pa_nil)) (pa_cons pe_int pa_nil))) pa_nil))) pa_nil)) (pg_name (i := 1) nd rfl (.inl rfl)) (pss_cons (ps_set (i := 2) nd rfl (.inl rfl) (pe_call G__law_numbers (hr.mono hk__law_numbers) rfl D__law_numbers.m D__law_numbers.fn.kp D__law_numbers.b .nil pass0 (pa_cons (pe_call G__law_cell (hr.mono hk__law_cell) rfl D__law_cell.m D__law_cell.fn.kp D__law_cell.b .nil pass0 (pa_cons (pv 0) (pa_cons (pv 1) pa_nil))) (pa_cons (pv 1) (pa_cons pe_int pa_nil)))))
      (pss_cons (ps_set (i := 3) nd rfl (.inl rfl) (pe_call G__law_great (hr.mono hk__law_great) rfl D__law_great.m D__law_great.fn.kp D__law_great.b .nil pass0 (pa_cons (pv 2) (pa_cons pe_int (pa_cons (pe_op op_add pe_int (pe_op op_mod (pe_callTy call_int1 (by rfl) b_int (by decide +kernel) (pa_cons (pe_ix ix_list (pv 2) pe_int (fun _ _ => rfl)) pa_nil)) pe_int)) pa_nil)))))
      (pss_cons (ps_set (i := 4) nd rfl (.inl rfl) (pe_call G__law_great (hr.mono hk__law_great) rfl D__law_great.m D__law_great.fn.kp D__law_great.b .nil pass0 (pa_cons (pv 2) (pa_cons pe_int (pa_cons (pe_op op_add pe_int (pe_op op_mod (pe_callTy call_int1 (by rfl) b_int (by decide +kernel) (pa_cons (pe_ix ix_list (pv 2) pe_int (fun _ _ => rfl)) pa_nil)) pe_int)) pa_nil)))))
      (pss_one (ps_for PassesOwn.never rfl (pi_range1 rfl b_range (pa_cons pe_int pa_nil)) (pg_name (i := 5) nd rfl (.inl rfl)) (pss_cons (ps_set (i := 6) nd rfl (.inl rfl) (pe_op op_add pe_int (pe_op op_mod (pe_op op_mul (pe_callTy call_int1 (by rfl) b_int (by decide +kernel) (pa_cons (pe_ix ix_list (pv 2) (pe_op op_add pe_int (pv 5)) (fun _ _ => rfl)) pa_nil)) (pe_op op_add pe_int (pv 5))) pe_int)))
      (pss_cons (ps_if (PW.pt (pw_and (pt_cmpR op_eq (pv 5) pe_int (nomark _)) (pw_and1 (pt_cmpR op_eq (pe_op op_mod (pe_callTy call_int1 (by rfl) b_int (by decide +kernel) (pa_cons (pe_ix ix_list (pv 2) pe_int (fun _ _ => rfl)) pa_nil)) pe_int) pe_int (nomark _))))) (pss_one (ps_set (i := 6) nd rfl (.inl rfl) (pe_op op_sub pe_int (pe_op op_mod (pe_op op_mul (pe_callTy call_int1 (by rfl) b_int (by decide +kernel) (pa_cons (pe_ix ix_list (pv 2) (pe_op op_add pe_int (pv 5)) (fun _ _ => rfl)) pa_nil)) pe_int) pe_int)))) pss_nil)
      (pss_cons (ps_if (PW.pt (pw_or (pt_cmpR op_ne (pe_call G_remainder (hr.mono hk_remainder) rfl D_remainder.m D_remainder.fn.kp D_remainder.b .nil passL (pa_cons (pv 3) (pa_cons (pv 6) pa_nil))) (pe_call G__law_remainder (hr.mono hk__law_remainder) rfl D__law_remainder.m D__law_remainder.fn.kp D__law_remainder.b .nil pass0 (pa_cons (pv 3) (pa_cons (pv 6) pa_nil))) (nomark _)) (pw_or1 (pt_not (pt_val (pe_call G__law_pair (hr.mono hk__law_pair) rfl D__law_pair.m D__law_pair.fn.kp D__law_pair.b .nil pass0 (pa_cons (pv 3) (pa_cons (pv 4) (pa_cons (pv 6) pa_nil))))))))) (pss_one (ps_ret pe_bl)) pss_nil)
      (pss_cons (ps_set (i := 7) nd rfl (.inl rfl) (pv 3))
      (pss_cons (ps_if (pt_cmpR op_lt (pe_call G_sign_of (hr.mono hk_sign_of) rfl D_sign_of.m D_sign_of.fn.kp D_sign_of.b .nil pass0 (pa_cons (pv 3) pa_nil)) pe_int (nomark _)) (pss_one (ps_set (i := 7) nd rfl (.inl rfl) (pe_call G_negate (hr.mono hk_negate) rfl D_negate.m D_negate.fn.kp D_negate.b .nil pass0 (pa_cons (pv 3) pa_nil)))) pss_nil)
      (pss_cons (ps_if (pt_cmpR op_ne (pe_call G_power_remainder (hr.mono hk_power_remainder) rfl D_power_remainder.m D_power_remainder.fn.kp D_power_remainder.b .nil passL (pa_cons (pv 7) (pa_cons (pv 6) pa_nil))) (pe_call G__law_power (hr.mono hk__law_power) rfl D__law_power.m D__law_power.fn.kp D__law_power.b .nil pass0 (pa_cons (pv 7) (pa_cons (pv 6) pa_nil))) (nomark _)) (pss_one (ps_ret pe_bl)) pss_nil)
      (pss_one (ps_if (pt_cmpR op_ne (pe_call G_power_remainder (hr.mono hk_power_remainder) rfl D_power_remainder.m D_power_remainder.fn.kp D_power_remainder.b .nil passL (pa_cons (pv 7) (pa_cons (pv 6) pa_nil))) (pe_call G__law_remainder (hr.mono hk__law_remainder) rfl D__law_remainder.m D__law_remainder.fn.kp D__law_remainder.b .nil pass0 (pa_cons (pe_tup (pa_cons (pe_tup (pa_cons pe_int (pa_cons (pv 7) pa_nil))) pa_nil)) (pa_cons (pv 6) pa_nil))) (nomark _)) (pss_one (ps_ret pe_bl)) pss_nil))))))))))))))
      (pss_one (ps_ret pe_bl)))
theorem all_by_rows {f f_p f_v : Addr} {fd fd_p fd_v : FuncData} (D : DefAt K mg "number_by_rows" s_number_by_rows ["x", "rows", "at"] f fd) (D_p : DefAt K mg "power_by_rows" s_power_by_rows ["exponent", "rows", "at"] f_p fd_p) (D_v : DefAt K mg "value_within" s_value_within ["number", "bits"] f_v fd_v) (G_v : FnOk P w K mg base CX0 45 f_v fd_v ["number", "bits"] (sp_value_within K 45)) (b_len : mg "len" = none) (b_sum : mg "sum" = none) :
    ∀ d, FnOk P w K mg base CX0 (2 * d + 46) f fd ["x", "rows", "at"] (sp_number_by_rows K d) ∧ FnOk P w K mg base CX0 (2 * d + 47) f_p fd_p ["exponent", "rows", "at"] (sp_power_by_rows K d)
  | 0 => by
    have N : FnOk P w K mg base CX0 46 f fd ["x", "rows", "at"] (sp_number_by_rows K 0) := fn_vac fun vs H Q E ⟨x, y, z, R, _, ⟨t, rs, i, _, _, _, _, h, _⟩, _⟩ => absurd h (Nat.not_lt_zero _)
    exact ⟨N, ok_power_by_rows (k := 46) D_p D_v G_v (by omega) D N (by omega) b_len⟩
  | d + 1 => by
    have ih := all_by_rows D D_p D_v G_v b_len b_sum d
    have N : FnOk P w K mg base CX0 (2 * d + 48) f fd ["x", "rows", "at"] (sp_number_by_rows K (d + 1)) := ok_number_by_rows (k := 2 * d + 47) D D_p ih.2 (by omega) b_len b_sum
    exact ⟨N, ok_power_by_rows (k := 2 * d + 48) D_p D_v G_v (by omega) D N (by omega) b_len⟩
theorem all_law_rp {f f_p f_s : Addr} {fd fd_p fd_s : FuncData} {ks : Nat} (D : DefAt K mg "_law_remainder" s_law_remainder ["number", "m"] f fd) (D_p : DefAt K mg "_law_power" s_law_power ["exponent", "m"] f_p fd_p) (D_s : DefAt K mg "_law_small" s_law_small ["number"] f_s fd_s) (G_s : FnOk P w K mg base CX0 ks f_s fd_s ["number"] (sp_law_small K 14)) (b_int : mg "int" = none) (b_range : mg "range" = none) (b_len : mg "len" = none) :
    ∀ d, FnOk P w K mg base CX0 (ks + 2 * d + 1) f fd ["number", "m"] (sp_law_remainder K d) ∧ FnOk P w K mg base CX0 (ks + 2 * d + 2) f_p fd_p ["exponent", "m"] (sp_law_power K d)
  | 0 => by
    have N : FnOk P w K mg base CX0 (ks + 1) f fd ["number", "m"] (sp_law_remainder K 0) := fn_vac fun vs H Q E h => vac_law_remainder h
    exact ⟨N, ok_law_power (k := ks + 1) D_p D_s G_s (by omega) D N (by omega) b_range b_int b_len⟩
  | d + 1 => by
    have ih := all_law_rp D D_p D_s G_s b_int b_range b_len d
    have N : FnOk P w K mg base CX0 (ks + 2 * (d + 1) + 1) f fd ["number", "m"] (sp_law_remainder K (d + 1)) := ok_law_remainder (k := ks + 2 * d + 2) D D_p ih.2 (by omega) b_int
    exact ⟨N, ok_law_power (k := ks + 2 * (d + 1) + 1) D_p D_s G_s (by omega) D N (by omega) b_range b_int b_len⟩
theorem all_bare_number {f : Addr} {fd : FuncData} (D : DefAt K mg "bare_number" s_bare_number ["value"] f fd) {f_signed_places : Addr} {fd_signed_places : FuncData} (D_signed_places : DefAt K mg "signed_places" s_signed_places ["value"] f_signed_places fd_signed_places) (G_signed_places : FnOk P w K mg base CX0 1 f_signed_places fd_signed_places ["value"] (sp_signed_places K)) (b_tuple : mg "tuple" = none) {t_FIRST_END : Tok} (m_FIRST_END : mg "FIRST_END" = some (.int 8 t_FIRST_END)) {a_FIRST_NUMBERS : Addr} (m_FIRST_NUMBERS : mg "FIRST_NUMBERS" = some (.ref a_FIRST_NUMBERS)) (d_FIRST_NUMBERS : FirstAt K a_FIRST_NUMBERS) : ∀ d, FnOk P w K mg base CX0 (d + 1) f fd ["value"] (sp_bare_number K d)
  | 0 => fn_vac fun vs H Q E h => vac_bare_number h
  | d + 1 => ok_bare_number (k := d + 1) D  D_signed_places G_signed_places (by omega) b_tuple m_FIRST_END m_FIRST_NUMBERS d_FIRST_NUMBERS (all_bare_number D  D_signed_places G_signed_places b_tuple m_FIRST_END m_FIRST_NUMBERS d_FIRST_NUMBERS d)
theorem all_value_within {f : Addr} {fd : FuncData} (D : DefAt K mg "value_within" s_value_within ["number", "bits"] f fd) {t_FIRST_END : Tok} (m_FIRST_END : mg "FIRST_END" = some (.int 8 t_FIRST_END)) {a_FIRST_NUMBERS : Addr} (m_FIRST_NUMBERS : mg "FIRST_NUMBERS" = some (.ref a_FIRST_NUMBERS)) (d_FIRST_NUMBERS : FirstAt K a_FIRST_NUMBERS) : ∀ d, FnOk P w K mg base CX0 (d + 0) f fd ["number", "bits"] (sp_value_within K d)
  | 0 => fn_vac fun vs H Q E h => vac_value_within h
  | d + 1 => ok_value_within (k := d + 0) D    m_FIRST_END m_FIRST_NUMBERS d_FIRST_NUMBERS (all_value_within D    m_FIRST_END m_FIRST_NUMBERS d_FIRST_NUMBERS d)
theorem all_law_great {f : Addr} {fd : FuncData} (D : DefAt K mg "_law_great" s_law_great ["numbers", "at", "depth"] f fd) {a_NotAllowed : Addr} (C_NotAllowed : ClsAt K mg "NotAllowed" a_NotAllowed) {a_TooLarge : Addr} (C_TooLarge : ClsAt K mg "TooLarge" a_TooLarge) {f_of_int : Addr} {fd_of_int : FuncData} (D_of_int : DefAt K mg "of_int" s_of_int ["value"] f_of_int fd_of_int) (G_of_int : FnOk P w K mg base (L2.CX P w) 9 f_of_int fd_of_int ["value"] (sp_of_int K a_NotAllowed a_TooLarge)) {f_sign_of : Addr} {fd_sign_of : FuncData} (D_sign_of : DefAt K mg "sign_of" s_sign_of ["number"] f_sign_of fd_sign_of) (G_sign_of : FnOk P w K mg base CX0 1 f_sign_of fd_sign_of ["number"] (sp_sign_of K)) {f_negate : Addr} {fd_negate : FuncData} (D_negate : DefAt K mg "negate" s_negate ["number"] f_negate fd_negate) (G_negate : FnOk P w K mg base CX0 1 f_negate fd_negate ["number"] (sp_negate K)) {f_sum_terms : Addr} {fd_sum_terms : FuncData} (D_sum_terms : DefAt K mg "sum_terms" s_sum_terms ["terms"] f_sum_terms fd_sum_terms) (G_sum_terms : FnOk P w K mg base (L2.CX P w) 50 f_sum_terms fd_sum_terms ["terms"] (sp_sum_terms K a_NotAllowed a_TooLarge)) (b_int : mg "int" = none) (b_len : mg "len" = none) (b_range : mg "range" = none) : ∀ d, FnOk P w K mg base CX0 (d + 50) f fd ["numbers", "at", "depth"] (sp_law_great K d)
  | 0 => fn_vac fun vs H Q E h => vac_law_great h
  | d + 1 => ok_law_great (k := d + 50) D C_NotAllowed C_TooLarge D_of_int G_of_int (by omega) D_sign_of G_sign_of (by omega) D_negate G_negate (by omega) D_sum_terms G_sum_terms (by omega) b_int b_len b_range  (all_law_great D C_NotAllowed C_TooLarge D_of_int G_of_int D_sign_of G_sign_of D_negate G_negate D_sum_terms G_sum_terms b_int b_len b_range  d)
theorem all_law_small {f : Addr} {fd : FuncData} (D : DefAt K mg "_law_small" s_law_small ["number"] f fd) : ∀ d, FnOk P w K mg base CX0 (d + 0) f fd ["number"] (sp_law_small K d)
  | 0 => fn_vac fun vs H Q E h => vac_law_small h
  | d + 1 => ok_law_small (k := d + 0) D     (all_law_small D     d)
end
theorem all_mk {l : PySem.W.OpenLaw} {w : World} {K : PySem.W.Frag} {h : Heap} {mg : Str → Option Value} {fa : Addr} {f_signed_places : Addr} {od_signed_places an_signed_places : Option Addr} {sl_signed_places : Array (Option Value)} {oc_signed_places kV_signed_places dc_signed_places pm_signed_places cd_signed_places ct_signed_places : Value} {f_bare_number : Addr} {od_bare_number an_bare_number : Option Addr} {sl_bare_number : Array (Option Value)} {oc_bare_number kV_bare_number dc_bare_number pm_bare_number cd_bare_number ct_bare_number : Value} {f_value_within : Addr} {od_value_within an_value_within : Option Addr} {sl_value_within : Array (Option Value)} {oc_value_within kV_value_within dc_value_within pm_value_within cd_value_within ct_value_within : Value} {f_plus_small : Addr} {od_plus_small an_plus_small : Option Addr} {sl_plus_small : Array (Option Value)} {oc_plus_small kV_plus_small dc_plus_small pm_plus_small cd_plus_small ct_plus_small : Value} {f_order : Addr} {od_order an_order : Option Addr} {sl_order : Array (Option Value)} {oc_order kV_order dc_order pm_order cd_order ct_order : Value} {f_gap : Addr} {od_gap an_gap : Option Addr} {sl_gap : Array (Option Value)} {oc_gap kV_gap dc_gap pm_gap cd_gap ct_gap : Value} {f_terms_at : Addr} {od_terms_at an_terms_at : Option Addr} {sl_terms_at : Array (Option Value)} {oc_terms_at kV_terms_at dc_terms_at pm_terms_at cd_terms_at ct_terms_at : Value} {f_settled : Addr} {od_settled an_settled : Option Addr} {sl_settled : Array (Option Value)} {oc_settled kV_settled dc_settled pm_settled cd_settled ct_settled : Value} {f_plus : Addr} {od_plus an_plus : Option Addr} {sl_plus : Array (Option Value)} {oc_plus kV_plus dc_plus pm_plus cd_plus ct_plus : Value} {f_index_in : Addr} {od_index_in an_index_in : Option Addr} {sl_index_in : Array (Option Value)} {oc_index_in kV_index_in dc_index_in pm_index_in cd_index_in ct_index_in : Value} {f_bare_sum : Addr} {od_bare_sum an_bare_sum : Option Addr} {sl_bare_sum : Array (Option Value)} {oc_bare_sum kV_bare_sum dc_bare_sum pm_bare_sum cd_bare_sum ct_bare_sum : Value} {f_bare_shift : Addr} {od_bare_shift an_bare_shift : Option Addr} {sl_bare_shift : Array (Option Value)} {oc_bare_shift kV_bare_shift dc_bare_shift pm_bare_shift cd_bare_shift ct_bare_shift : Value} {f_levels : Addr} {od_levels an_levels : Option Addr} {sl_levels : Array (Option Value)} {oc_levels kV_levels dc_levels pm_levels cd_levels ct_levels : Value} {f_is_allowed : Addr} {od_is_allowed an_is_allowed : Option Addr} {sl_is_allowed : Array (Option Value)} {oc_is_allowed kV_is_allowed dc_is_allowed pm_is_allowed cd_is_allowed ct_is_allowed : Value} {f_allowed : Addr} {od_allowed an_allowed : Option Addr} {sl_allowed : Array (Option Value)} {oc_allowed kV_allowed dc_allowed pm_allowed cd_allowed ct_allowed : Value} {f_sign_of : Addr} {od_sign_of an_sign_of : Option Addr} {sl_sign_of : Array (Option Value)} {oc_sign_of kV_sign_of dc_sign_of pm_sign_of cd_sign_of ct_sign_of : Value} {f_of_int : Addr} {od_of_int an_of_int : Option Addr} {sl_of_int : Array (Option Value)} {oc_of_int kV_of_int dc_of_int pm_of_int cd_of_int ct_of_int : Value} {f_check_modulus : Addr} {od_check_modulus an_check_modulus : Option Addr} {sl_check_modulus : Array (Option Value)} {oc_check_modulus kV_check_modulus dc_check_modulus pm_check_modulus cd_check_modulus ct_check_modulus : Value} {f_power_row : Addr} {od_power_row an_power_row : Option Addr} {sl_power_row : Array (Option Value)} {oc_power_row kV_power_row dc_power_row pm_power_row cd_power_row ct_power_row : Value} {f_power_rows : Addr} {od_power_rows an_power_rows : Option Addr} {sl_power_rows : Array (Option Value)} {oc_power_rows kV_power_rows dc_power_rows pm_power_rows cd_power_rows ct_power_rows : Value} {f_power_by_rows : Addr} {od_power_by_rows an_power_by_rows : Option Addr} {sl_power_by_rows : Array (Option Value)} {oc_power_by_rows kV_power_by_rows dc_power_by_rows pm_power_by_rows cd_power_by_rows ct_power_by_rows : Value} {f_number_by_rows : Addr} {od_number_by_rows an_number_by_rows : Option Addr} {sl_number_by_rows : Array (Option Value)} {oc_number_by_rows kV_number_by_rows dc_number_by_rows pm_number_by_rows cd_number_by_rows ct_number_by_rows : Value} {f_remainder : Addr} {od_remainder an_remainder : Option Addr} {sl_remainder : Array (Option Value)} {oc_remainder kV_remainder dc_remainder pm_remainder cd_remainder ct_remainder : Value} {f_power_remainder : Addr} {od_power_remainder an_power_remainder : Option Addr} {sl_power_remainder : Array (Option Value)} {oc_power_remainder kV_power_remainder dc_power_remainder pm_power_remainder cd_power_remainder ct_power_remainder : Value} {f_multiply : Addr} {od_multiply an_multiply : Option Addr} {sl_multiply : Array (Option Value)} {oc_multiply kV_multiply dc_multiply pm_multiply cd_multiply ct_multiply : Value} {f_negate : Addr} {od_negate an_negate : Option Addr} {sl_negate : Array (Option Value)} {oc_negate kV_negate dc_negate pm_negate cd_negate ct_negate : Value} {f_add : Addr} {od_add an_add : Option Addr} {sl_add : Array (Option Value)} {oc_add kV_add dc_add pm_add cd_add ct_add : Value} {f_subtract : Addr} {od_subtract an_subtract : Option Addr} {sl_subtract : Array (Option Value)} {oc_subtract kV_subtract dc_subtract pm_subtract cd_subtract ct_subtract : Value} {f_sum_terms : Addr} {od_sum_terms an_sum_terms : Option Addr} {sl_sum_terms : Array (Option Value)} {oc_sum_terms kV_sum_terms dc_sum_terms pm_sum_terms cd_sum_terms ct_sum_terms : Value} {f_law_cell : Addr} {od_law_cell an_law_cell : Option Addr} {sl_law_cell : Array (Option Value)} {oc_law_cell kV_law_cell dc_law_cell pm_law_cell cd_law_cell ct_law_cell : Value} {f_law_numbers : Addr} {od_law_numbers an_law_numbers : Option Addr} {sl_law_numbers : Array (Option Value)} {oc_law_numbers kV_law_numbers dc_law_numbers pm_law_numbers cd_law_numbers ct_law_numbers : Value} {f_law_great : Addr} {od_law_great an_law_great : Option Addr} {sl_law_great : Array (Option Value)} {oc_law_great kV_law_great dc_law_great pm_law_great cd_law_great ct_law_great : Value} {f_law_small : Addr} {od_law_small an_law_small : Option Addr} {sl_law_small : Array (Option Value)} {oc_law_small kV_law_small dc_law_small pm_law_small cd_law_small ct_law_small : Value} {f_law_remainder : Addr} {od_law_remainder an_law_remainder : Option Addr} {sl_law_remainder : Array (Option Value)} {oc_law_remainder kV_law_remainder dc_law_remainder pm_law_remainder cd_law_remainder ct_law_remainder : Value} {f_law_power : Addr} {od_law_power an_law_power : Option Addr} {sl_law_power : Array (Option Value)} {oc_law_power kV_law_power dc_law_power pm_law_power cd_law_power ct_law_power : Value} {f_law_pair : Addr} {od_law_pair an_law_pair : Option Addr} {sl_law_pair : Array (Option Value)} {oc_law_pair kV_law_pair dc_law_pair pm_law_pair cd_law_pair ct_law_pair : Value} {f_law : Addr} {od_law an_law : Option Addr} {sl_law : Array (Option Value)} {oc_law kV_law dc_law pm_law cd_law ct_law : Value} {a_NotAllowed : Addr} {a_ReckonError : Addr} {a_TooLarge : Addr} {f_c_ReckonError T_c_ReckonError : Addr} {od_c_ReckonError od2_c_ReckonError an_c_ReckonError : Option Addr} {sl_c_ReckonError sl2_c_ReckonError : Array (Option Value)} {oc_c_ReckonError oc2_c_ReckonError kV_c_ReckonError dc_c_ReckonError pm_c_ReckonError cd_c_ReckonError ct_c_ReckonError : Value} {n_c_ReckonError : Nat} {tk_c_ReckonError tk2_c_ReckonError : Tok} {f_c_NotAllowed T_c_NotAllowed : Addr} {od_c_NotAllowed od2_c_NotAllowed an_c_NotAllowed : Option Addr} {sl_c_NotAllowed sl2_c_NotAllowed : Array (Option Value)} {oc_c_NotAllowed oc2_c_NotAllowed kV_c_NotAllowed dc_c_NotAllowed pm_c_NotAllowed cd_c_NotAllowed ct_c_NotAllowed : Value} {n_c_NotAllowed : Nat} {tk_c_NotAllowed  : Tok} {q_NotAllowed : Str} {N_NotAllowed : Addr} {bs_NotAllowed bm_NotAllowed sub_NotAllowed : List Value} {sn_NotAllowed : List Str} {ab_NotAllowed : Bool} {col_NotAllowed : Option Bool} {dd_NotAllowed : Option Addr} {k0_NotAllowed k1_NotAllowed k2_NotAllowed k3_NotAllowed k5_NotAllowed : Option Value} {f_c_TooLarge T_c_TooLarge : Addr} {od_c_TooLarge od2_c_TooLarge an_c_TooLarge : Option Addr} {sl_c_TooLarge sl2_c_TooLarge : Array (Option Value)} {oc_c_TooLarge oc2_c_TooLarge kV_c_TooLarge dc_c_TooLarge pm_c_TooLarge cd_c_TooLarge ct_c_TooLarge : Value} {n_c_TooLarge : Nat} {tk_c_TooLarge  : Tok} {q_TooLarge : Str} {N_TooLarge : Addr} {bs_TooLarge bm_TooLarge sub_TooLarge : List Value} {sn_TooLarge : List Str} {ab_TooLarge : Bool} {col_TooLarge : Option Bool} {dd_TooLarge : Option Addr} {k0_TooLarge k1_TooLarge k2_TooLarge k3_TooLarge k5_TooLarge : Option Value} {t_FIRST_END : Tok} {t_INTEGER_BITS : Tok} {t_MAX_GIVEN_BITS : Tok} {t_MAX_HEIGHT : Tok} {t_MAX_MODULUS : Tok} {t_MAX_PRODUCT : Tok} {t_MAX_SIZE : Tok} {t_MAX_TERMS : Tok} {t_NEAR_BITS : Tok} {t_PLACE_BITS : Tok} {a_FIRST_NUMBERS : Addr} (X : K.In h) (G : h.Ns mainGlobals mg) (hfa : mg "law" = some (.ref fa))
    (a_signed_places : PySem.W.nsIn K mainGlobals "signed_places" = some (some (.ref f_signed_places)))
    (l_signed_places : K.lookup f_signed_places = some ⟨oc_signed_places, od_signed_places, .func (PySem.W.fnOf "signed_places" "signed_places" (defArgs s_signed_places) (defBody s_signed_places) (defScope s_signed_places) .none kV_signed_places dc_signed_places pm_signed_places an_signed_places cd_signed_places ct_signed_places), sl_signed_places⟩)
    (c_signed_places : PySem.W.codeIn K cd_signed_places "signed_places" = true)
    (k_signed_places : PySem.W.keepIn K (.ref f_signed_places) = true)
    (a_bare_number : PySem.W.nsIn K mainGlobals "bare_number" = some (some (.ref f_bare_number)))
    (l_bare_number : K.lookup f_bare_number = some ⟨oc_bare_number, od_bare_number, .func (PySem.W.fnOf "bare_number" "bare_number" (defArgs s_bare_number) (defBody s_bare_number) (defScope s_bare_number) .none kV_bare_number dc_bare_number pm_bare_number an_bare_number cd_bare_number ct_bare_number), sl_bare_number⟩)
    (c_bare_number : PySem.W.codeIn K cd_bare_number "bare_number" = true)
    (k_bare_number : PySem.W.keepIn K (.ref f_bare_number) = true)
    (a_value_within : PySem.W.nsIn K mainGlobals "value_within" = some (some (.ref f_value_within)))
    (l_value_within : K.lookup f_value_within = some ⟨oc_value_within, od_value_within, .func (PySem.W.fnOf "value_within" "value_within" (defArgs s_value_within) (defBody s_value_within) (defScope s_value_within) .none kV_value_within dc_value_within pm_value_within an_value_within cd_value_within ct_value_within), sl_value_within⟩)
    (c_value_within : PySem.W.codeIn K cd_value_within "value_within" = true)
    (k_value_within : PySem.W.keepIn K (.ref f_value_within) = true)
    (a_plus_small : PySem.W.nsIn K mainGlobals "plus_small" = some (some (.ref f_plus_small)))
    (l_plus_small : K.lookup f_plus_small = some ⟨oc_plus_small, od_plus_small, .func (PySem.W.fnOf "plus_small" "plus_small" (defArgs s_plus_small) (defBody s_plus_small) (defScope s_plus_small) .none kV_plus_small dc_plus_small pm_plus_small an_plus_small cd_plus_small ct_plus_small), sl_plus_small⟩)
    (c_plus_small : PySem.W.codeIn K cd_plus_small "plus_small" = true)
    (k_plus_small : PySem.W.keepIn K (.ref f_plus_small) = true)
    (a_order : PySem.W.nsIn K mainGlobals "order" = some (some (.ref f_order)))
    (l_order : K.lookup f_order = some ⟨oc_order, od_order, .func (PySem.W.fnOf "order" "order" (defArgs s_order) (defBody s_order) (defScope s_order) .none kV_order dc_order pm_order an_order cd_order ct_order), sl_order⟩)
    (c_order : PySem.W.codeIn K cd_order "order" = true)
    (k_order : PySem.W.keepIn K (.ref f_order) = true)
    (a_gap : PySem.W.nsIn K mainGlobals "gap" = some (some (.ref f_gap)))
    (l_gap : K.lookup f_gap = some ⟨oc_gap, od_gap, .func (PySem.W.fnOf "gap" "gap" (defArgs s_gap) (defBody s_gap) (defScope s_gap) .none kV_gap dc_gap pm_gap an_gap cd_gap ct_gap), sl_gap⟩)
    (c_gap : PySem.W.codeIn K cd_gap "gap" = true)
    (k_gap : PySem.W.keepIn K (.ref f_gap) = true)
    (a_terms_at : PySem.W.nsIn K mainGlobals "terms_at" = some (some (.ref f_terms_at)))
    (l_terms_at : K.lookup f_terms_at = some ⟨oc_terms_at, od_terms_at, .func (PySem.W.fnOf "terms_at" "terms_at" (defArgs s_terms_at) (defBody s_terms_at) (defScope s_terms_at) .none kV_terms_at dc_terms_at pm_terms_at an_terms_at cd_terms_at ct_terms_at), sl_terms_at⟩)
    (c_terms_at : PySem.W.codeIn K cd_terms_at "terms_at" = true)
    (k_terms_at : PySem.W.keepIn K (.ref f_terms_at) = true)
    (a_settled : PySem.W.nsIn K mainGlobals "settled" = some (some (.ref f_settled)))
    (l_settled : K.lookup f_settled = some ⟨oc_settled, od_settled, .func (PySem.W.fnOf "settled" "settled" (defArgs s_settled) (defBody s_settled) (defScope s_settled) .none kV_settled dc_settled pm_settled an_settled cd_settled ct_settled), sl_settled⟩)
    (c_settled : PySem.W.codeIn K cd_settled "settled" = true)
    (k_settled : PySem.W.keepIn K (.ref f_settled) = true)
    (a_plus : PySem.W.nsIn K mainGlobals "plus" = some (some (.ref f_plus)))
    (l_plus : K.lookup f_plus = some ⟨oc_plus, od_plus, .func (PySem.W.fnOf "plus" "plus" (defArgs s_plus) (defBody s_plus) (defScope s_plus) .none kV_plus dc_plus pm_plus an_plus cd_plus ct_plus), sl_plus⟩)
    (c_plus : PySem.W.codeIn K cd_plus "plus" = true)
    (k_plus : PySem.W.keepIn K (.ref f_plus) = true)
    (a_index_in : PySem.W.nsIn K mainGlobals "index_in" = some (some (.ref f_index_in)))
    (l_index_in : K.lookup f_index_in = some ⟨oc_index_in, od_index_in, .func (PySem.W.fnOf "index_in" "index_in" (defArgs s_index_in) (defBody s_index_in) (defScope s_index_in) .none kV_index_in dc_index_in pm_index_in an_index_in cd_index_in ct_index_in), sl_index_in⟩)
    (c_index_in : PySem.W.codeIn K cd_index_in "index_in" = true)
    (k_index_in : PySem.W.keepIn K (.ref f_index_in) = true)
    (a_bare_sum : PySem.W.nsIn K mainGlobals "bare_sum" = some (some (.ref f_bare_sum)))
    (l_bare_sum : K.lookup f_bare_sum = some ⟨oc_bare_sum, od_bare_sum, .func (PySem.W.fnOf "bare_sum" "bare_sum" (defArgs s_bare_sum) (defBody s_bare_sum) (defScope s_bare_sum) .none kV_bare_sum dc_bare_sum pm_bare_sum an_bare_sum cd_bare_sum ct_bare_sum), sl_bare_sum⟩)
    (c_bare_sum : PySem.W.codeIn K cd_bare_sum "bare_sum" = true)
    (k_bare_sum : PySem.W.keepIn K (.ref f_bare_sum) = true)
    (a_bare_shift : PySem.W.nsIn K mainGlobals "bare_shift" = some (some (.ref f_bare_shift)))
    (l_bare_shift : K.lookup f_bare_shift = some ⟨oc_bare_shift, od_bare_shift, .func (PySem.W.fnOf "bare_shift" "bare_shift" (defArgs s_bare_shift) (defBody s_bare_shift) (defScope s_bare_shift) .none kV_bare_shift dc_bare_shift pm_bare_shift an_bare_shift cd_bare_shift ct_bare_shift), sl_bare_shift⟩)
    (c_bare_shift : PySem.W.codeIn K cd_bare_shift "bare_shift" = true)
    (k_bare_shift : PySem.W.keepIn K (.ref f_bare_shift) = true)
    (a_levels : PySem.W.nsIn K mainGlobals "levels" = some (some (.ref f_levels)))
    (l_levels : K.lookup f_levels = some ⟨oc_levels, od_levels, .func (PySem.W.fnOf "levels" "levels" (defArgs s_levels) (defBody s_levels) (defScope s_levels) .none kV_levels dc_levels pm_levels an_levels cd_levels ct_levels), sl_levels⟩)
    (c_levels : PySem.W.codeIn K cd_levels "levels" = true)
    (k_levels : PySem.W.keepIn K (.ref f_levels) = true)
    (a_is_allowed : PySem.W.nsIn K mainGlobals "is_allowed" = some (some (.ref f_is_allowed)))
    (l_is_allowed : K.lookup f_is_allowed = some ⟨oc_is_allowed, od_is_allowed, .func (PySem.W.fnOf "is_allowed" "is_allowed" (defArgs s_is_allowed) (defBody s_is_allowed) (defScope s_is_allowed) .none kV_is_allowed dc_is_allowed pm_is_allowed an_is_allowed cd_is_allowed ct_is_allowed), sl_is_allowed⟩)
    (c_is_allowed : PySem.W.codeIn K cd_is_allowed "is_allowed" = true)
    (k_is_allowed : PySem.W.keepIn K (.ref f_is_allowed) = true)
    (a_allowed : PySem.W.nsIn K mainGlobals "allowed" = some (some (.ref f_allowed)))
    (l_allowed : K.lookup f_allowed = some ⟨oc_allowed, od_allowed, .func (PySem.W.fnOf "allowed" "allowed" (defArgs s_allowed) (defBody s_allowed) (defScope s_allowed) .none kV_allowed dc_allowed pm_allowed an_allowed cd_allowed ct_allowed), sl_allowed⟩)
    (c_allowed : PySem.W.codeIn K cd_allowed "allowed" = true)
    (k_allowed : PySem.W.keepIn K (.ref f_allowed) = true)
    (a_sign_of : PySem.W.nsIn K mainGlobals "sign_of" = some (some (.ref f_sign_of)))
    (l_sign_of : K.lookup f_sign_of = some ⟨oc_sign_of, od_sign_of, .func (PySem.W.fnOf "sign_of" "sign_of" (defArgs s_sign_of) (defBody s_sign_of) (defScope s_sign_of) .none kV_sign_of dc_sign_of pm_sign_of an_sign_of cd_sign_of ct_sign_of), sl_sign_of⟩)
    (c_sign_of : PySem.W.codeIn K cd_sign_of "sign_of" = true)
    (k_sign_of : PySem.W.keepIn K (.ref f_sign_of) = true)
    (a_of_int : PySem.W.nsIn K mainGlobals "of_int" = some (some (.ref f_of_int)))
    (l_of_int : K.lookup f_of_int = some ⟨oc_of_int, od_of_int, .func (PySem.W.fnOf "of_int" "of_int" (defArgs s_of_int) (defBody s_of_int) (defScope s_of_int) .none kV_of_int dc_of_int pm_of_int an_of_int cd_of_int ct_of_int), sl_of_int⟩)
    (c_of_int : PySem.W.codeIn K cd_of_int "of_int" = true)
    (k_of_int : PySem.W.keepIn K (.ref f_of_int) = true)
    (a_check_modulus : PySem.W.nsIn K mainGlobals "check_modulus" = some (some (.ref f_check_modulus)))
    (l_check_modulus : K.lookup f_check_modulus = some ⟨oc_check_modulus, od_check_modulus, .func (PySem.W.fnOf "check_modulus" "check_modulus" (defArgs s_check_modulus) (defBody s_check_modulus) (defScope s_check_modulus) .none kV_check_modulus dc_check_modulus pm_check_modulus an_check_modulus cd_check_modulus ct_check_modulus), sl_check_modulus⟩)
    (c_check_modulus : PySem.W.codeIn K cd_check_modulus "check_modulus" = true)
    (k_check_modulus : PySem.W.keepIn K (.ref f_check_modulus) = true)
    (a_power_row : PySem.W.nsIn K mainGlobals "power_row" = some (some (.ref f_power_row)))
    (l_power_row : K.lookup f_power_row = some ⟨oc_power_row, od_power_row, .func (PySem.W.fnOf "power_row" "power_row" (defArgs s_power_row) (defBody s_power_row) (defScope s_power_row) .none kV_power_row dc_power_row pm_power_row an_power_row cd_power_row ct_power_row), sl_power_row⟩)
    (c_power_row : PySem.W.codeIn K cd_power_row "power_row" = true)
    (k_power_row : PySem.W.keepIn K (.ref f_power_row) = true)
    (a_power_rows : PySem.W.nsIn K mainGlobals "power_rows" = some (some (.ref f_power_rows)))
    (l_power_rows : K.lookup f_power_rows = some ⟨oc_power_rows, od_power_rows, .func (PySem.W.fnOf "power_rows" "power_rows" (defArgs s_power_rows) (defBody s_power_rows) (defScope s_power_rows) .none kV_power_rows dc_power_rows pm_power_rows an_power_rows cd_power_rows ct_power_rows), sl_power_rows⟩)
    (c_power_rows : PySem.W.codeIn K cd_power_rows "power_rows" = true)
    (k_power_rows : PySem.W.keepIn K (.ref f_power_rows) = true)
    (a_power_by_rows : PySem.W.nsIn K mainGlobals "power_by_rows" = some (some (.ref f_power_by_rows)))
    (l_power_by_rows : K.lookup f_power_by_rows = some ⟨oc_power_by_rows, od_power_by_rows, .func (PySem.W.fnOf "power_by_rows" "power_by_rows" (defArgs s_power_by_rows) (defBody s_power_by_rows) (defScope s_power_by_rows) .none kV_power_by_rows dc_power_by_rows pm_power_by_rows an_power_by_rows cd_power_by_rows ct_power_by_rows), sl_power_by_rows⟩)
    (c_power_by_rows : PySem.W.codeIn K cd_power_by_rows "power_by_rows" = true)
    (k_power_by_rows : PySem.W.keepIn K (.ref f_power_by_rows) = true)
    (a_number_by_rows : PySem.W.nsIn K mainGlobals "number_by_rows" = some (some (.ref f_number_by_rows)))
    (l_number_by_rows : K.lookup f_number_by_rows = some ⟨oc_number_by_rows, od_number_by_rows, .func (PySem.W.fnOf "number_by_rows" "number_by_rows" (defArgs s_number_by_rows) (defBody s_number_by_rows) (defScope s_number_by_rows) .none kV_number_by_rows dc_number_by_rows pm_number_by_rows an_number_by_rows cd_number_by_rows ct_number_by_rows), sl_number_by_rows⟩)
    (c_number_by_rows : PySem.W.codeIn K cd_number_by_rows "number_by_rows" = true)
    (k_number_by_rows : PySem.W.keepIn K (.ref f_number_by_rows) = true)
    (a_remainder : PySem.W.nsIn K mainGlobals "remainder" = some (some (.ref f_remainder)))
    (l_remainder : K.lookup f_remainder = some ⟨oc_remainder, od_remainder, .func (PySem.W.fnOf "remainder" "remainder" (defArgs s_remainder) (defBody s_remainder) (defScope s_remainder) .none kV_remainder dc_remainder pm_remainder an_remainder cd_remainder ct_remainder), sl_remainder⟩)
    (c_remainder : PySem.W.codeIn K cd_remainder "remainder" = true)
    (k_remainder : PySem.W.keepIn K (.ref f_remainder) = true)
    (a_power_remainder : PySem.W.nsIn K mainGlobals "power_remainder" = some (some (.ref f_power_remainder)))
    (l_power_remainder : K.lookup f_power_remainder = some ⟨oc_power_remainder, od_power_remainder, .func (PySem.W.fnOf "power_remainder" "power_remainder" (defArgs s_power_remainder) (defBody s_power_remainder) (defScope s_power_remainder) .none kV_power_remainder dc_power_remainder pm_power_remainder an_power_remainder cd_power_remainder ct_power_remainder), sl_power_remainder⟩)
    (c_power_remainder : PySem.W.codeIn K cd_power_remainder "power_remainder" = true)
    (k_power_remainder : PySem.W.keepIn K (.ref f_power_remainder) = true)
    (a_multiply : PySem.W.nsIn K mainGlobals "multiply" = some (some (.ref f_multiply)))
    (l_multiply : K.lookup f_multiply = some ⟨oc_multiply, od_multiply, .func (PySem.W.fnOf "multiply" "multiply" (defArgs s_multiply) (defBody s_multiply) (defScope s_multiply) .none kV_multiply dc_multiply pm_multiply an_multiply cd_multiply ct_multiply), sl_multiply⟩)
    (c_multiply : PySem.W.codeIn K cd_multiply "multiply" = true)
    (k_multiply : PySem.W.keepIn K (.ref f_multiply) = true)
    (a_negate : PySem.W.nsIn K mainGlobals "negate" = some (some (.ref f_negate)))
    (l_negate : K.lookup f_negate = some ⟨oc_negate, od_negate, .func (PySem.W.fnOf "negate" "negate" (defArgs s_negate) (defBody s_negate) (defScope s_negate) .none kV_negate dc_negate pm_negate an_negate cd_negate ct_negate), sl_negate⟩)
    (c_negate : PySem.W.codeIn K cd_negate "negate" = true)
    (k_negate : PySem.W.keepIn K (.ref f_negate) = true)
    (a_add : PySem.W.nsIn K mainGlobals "add" = some (some (.ref f_add)))
    (l_add : K.lookup f_add = some ⟨oc_add, od_add, .func (PySem.W.fnOf "add" "add" (defArgs s_add) (defBody s_add) (defScope s_add) .none kV_add dc_add pm_add an_add cd_add ct_add), sl_add⟩)
    (c_add : PySem.W.codeIn K cd_add "add" = true)
    (k_add : PySem.W.keepIn K (.ref f_add) = true)
    (a_subtract : PySem.W.nsIn K mainGlobals "subtract" = some (some (.ref f_subtract)))
    (l_subtract : K.lookup f_subtract = some ⟨oc_subtract, od_subtract, .func (PySem.W.fnOf "subtract" "subtract" (defArgs s_subtract) (defBody s_subtract) (defScope s_subtract) .none kV_subtract dc_subtract pm_subtract an_subtract cd_subtract ct_subtract), sl_subtract⟩)
    (c_subtract : PySem.W.codeIn K cd_subtract "subtract" = true)
    (k_subtract : PySem.W.keepIn K (.ref f_subtract) = true)
    (a_sum_terms : PySem.W.nsIn K mainGlobals "sum_terms" = some (some (.ref f_sum_terms)))
    (l_sum_terms : K.lookup f_sum_terms = some ⟨oc_sum_terms, od_sum_terms, .func (PySem.W.fnOf "sum_terms" "sum_terms" (defArgs s_sum_terms) (defBody s_sum_terms) (defScope s_sum_terms) .none kV_sum_terms dc_sum_terms pm_sum_terms an_sum_terms cd_sum_terms ct_sum_terms), sl_sum_terms⟩)
    (c_sum_terms : PySem.W.codeIn K cd_sum_terms "sum_terms" = true)
    (k_sum_terms : PySem.W.keepIn K (.ref f_sum_terms) = true)
    (a_law_cell : PySem.W.nsIn K mainGlobals "_law_cell" = some (some (.ref f_law_cell)))
    (l_law_cell : K.lookup f_law_cell = some ⟨oc_law_cell, od_law_cell, .func (PySem.W.fnOf "_law_cell" "_law_cell" (defArgs s_law_cell) (defBody s_law_cell) (defScope s_law_cell) .none kV_law_cell dc_law_cell pm_law_cell an_law_cell cd_law_cell ct_law_cell), sl_law_cell⟩)
    (c_law_cell : PySem.W.codeIn K cd_law_cell "_law_cell" = true)
    (k_law_cell : PySem.W.keepIn K (.ref f_law_cell) = true)
    (a_law_numbers : PySem.W.nsIn K mainGlobals "_law_numbers" = some (some (.ref f_law_numbers)))
    (l_law_numbers : K.lookup f_law_numbers = some ⟨oc_law_numbers, od_law_numbers, .func (PySem.W.fnOf "_law_numbers" "_law_numbers" (defArgs s_law_numbers) (defBody s_law_numbers) (defScope s_law_numbers) .none kV_law_numbers dc_law_numbers pm_law_numbers an_law_numbers cd_law_numbers ct_law_numbers), sl_law_numbers⟩)
    (c_law_numbers : PySem.W.codeIn K cd_law_numbers "_law_numbers" = true)
    (k_law_numbers : PySem.W.keepIn K (.ref f_law_numbers) = true)
    (a_law_great : PySem.W.nsIn K mainGlobals "_law_great" = some (some (.ref f_law_great)))
    (l_law_great : K.lookup f_law_great = some ⟨oc_law_great, od_law_great, .func (PySem.W.fnOf "_law_great" "_law_great" (defArgs s_law_great) (defBody s_law_great) (defScope s_law_great) .none kV_law_great dc_law_great pm_law_great an_law_great cd_law_great ct_law_great), sl_law_great⟩)
    (c_law_great : PySem.W.codeIn K cd_law_great "_law_great" = true)
    (k_law_great : PySem.W.keepIn K (.ref f_law_great) = true)
    (a_law_small : PySem.W.nsIn K mainGlobals "_law_small" = some (some (.ref f_law_small)))
    (l_law_small : K.lookup f_law_small = some ⟨oc_law_small, od_law_small, .func (PySem.W.fnOf "_law_small" "_law_small" (defArgs s_law_small) (defBody s_law_small) (defScope s_law_small) .none kV_law_small dc_law_small pm_law_small an_law_small cd_law_small ct_law_small), sl_law_small⟩)
    (c_law_small : PySem.W.codeIn K cd_law_small "_law_small" = true)
    (k_law_small : PySem.W.keepIn K (.ref f_law_small) = true)
    (a_law_remainder : PySem.W.nsIn K mainGlobals "_law_remainder" = some (some (.ref f_law_remainder)))
    (l_law_remainder : K.lookup f_law_remainder = some ⟨oc_law_remainder, od_law_remainder, .func (PySem.W.fnOf "_law_remainder" "_law_remainder" (defArgs s_law_remainder) (defBody s_law_remainder) (defScope s_law_remainder) .none kV_law_remainder dc_law_remainder pm_law_remainder an_law_remainder cd_law_remainder ct_law_remainder), sl_law_remainder⟩)
    (c_law_remainder : PySem.W.codeIn K cd_law_remainder "_law_remainder" = true)
    (k_law_remainder : PySem.W.keepIn K (.ref f_law_remainder) = true)
    (a_law_power : PySem.W.nsIn K mainGlobals "_law_power" = some (some (.ref f_law_power)))
    (l_law_power : K.lookup f_law_power = some ⟨oc_law_power, od_law_power, .func (PySem.W.fnOf "_law_power" "_law_power" (defArgs s_law_power) (defBody s_law_power) (defScope s_law_power) .none kV_law_power dc_law_power pm_law_power an_law_power cd_law_power ct_law_power), sl_law_power⟩)
    (c_law_power : PySem.W.codeIn K cd_law_power "_law_power" = true)
    (k_law_power : PySem.W.keepIn K (.ref f_law_power) = true)
    (a_law_pair : PySem.W.nsIn K mainGlobals "_law_pair" = some (some (.ref f_law_pair)))
    (l_law_pair : K.lookup f_law_pair = some ⟨oc_law_pair, od_law_pair, .func (PySem.W.fnOf "_law_pair" "_law_pair" (defArgs s_law_pair) (defBody s_law_pair) (defScope s_law_pair) .none kV_law_pair dc_law_pair pm_law_pair an_law_pair cd_law_pair ct_law_pair), sl_law_pair⟩)
    (c_law_pair : PySem.W.codeIn K cd_law_pair "_law_pair" = true)
    (k_law_pair : PySem.W.keepIn K (.ref f_law_pair) = true)
    (a_law : PySem.W.nsIn K mainGlobals "law" = some (some (.ref f_law)))
    (l_law : K.lookup f_law = some ⟨oc_law, od_law, .func (PySem.W.fnOf "law" "law" (defArgs s_law) (defBody s_law) (defScope s_law) .none kV_law dc_law pm_law an_law cd_law ct_law), sl_law⟩)
    (c_law : PySem.W.codeIn K cd_law "law" = true)
    (k_law : PySem.W.keepIn K (.ref f_law) = true)
    (x1_NotAllowed : PySem.W.nsIn K mainGlobals "NotAllowed" = some (some (.ref a_NotAllowed)))
    (x2_NotAllowed : PySem.W.keepIn K (.ref a_NotAllowed) = true)
    (x4_NotAllowed : PySem.W.subIn K (.ref a_NotAllowed) (.type "BaseException") = some true)
    (x5_NotAllowed : PySem.W.typeIn K (.ref a_NotAllowed) = some (.type "type"))
    (y1_NotAllowed : PySem.W.findIn K (.ref a_NotAllowed) "__getattribute__" = some (some (.builtin "BaseException.__getattribute__")))
    (y2_NotAllowed : PySem.W.findIn K (.ref a_NotAllowed) "__getattr__" = some none)
    (y4_NotAllowed : PySem.W.hasDictIn K a_NotAllowed = true)
    (y5_NotAllowed : PySem.W.findIn K (.ref a_NotAllowed) "__class__" = some (some (.builtin "object.__class__")))
    (y8_NotAllowed : PySem.W.mroIn K a_NotAllowed (.type "object") = some true)
    (x1_ReckonError : PySem.W.nsIn K mainGlobals "ReckonError" = some (some (.ref a_ReckonError)))
    (x2_ReckonError : PySem.W.keepIn K (.ref a_ReckonError) = true)
    (x4_ReckonError : PySem.W.subIn K (.ref a_ReckonError) (.type "BaseException") = some true)
    (x5_ReckonError : PySem.W.typeIn K (.ref a_ReckonError) = some (.type "type"))
    (y1_ReckonError : PySem.W.findIn K (.ref a_ReckonError) "__getattribute__" = some (some (.builtin "BaseException.__getattribute__")))
    (y2_ReckonError : PySem.W.findIn K (.ref a_ReckonError) "__getattr__" = some none)
    (y4_ReckonError : PySem.W.hasDictIn K a_ReckonError = true)
    (y5_ReckonError : PySem.W.findIn K (.ref a_ReckonError) "__class__" = some (some (.builtin "object.__class__")))
    (y8_ReckonError : PySem.W.mroIn K a_ReckonError (.type "object") = some true)
    (x1_TooLarge : PySem.W.nsIn K mainGlobals "TooLarge" = some (some (.ref a_TooLarge)))
    (x2_TooLarge : PySem.W.keepIn K (.ref a_TooLarge) = true)
    (x4_TooLarge : PySem.W.subIn K (.ref a_TooLarge) (.type "BaseException") = some true)
    (x5_TooLarge : PySem.W.typeIn K (.ref a_TooLarge) = some (.type "type"))
    (y1_TooLarge : PySem.W.findIn K (.ref a_TooLarge) "__getattribute__" = some (some (.builtin "BaseException.__getattribute__")))
    (y2_TooLarge : PySem.W.findIn K (.ref a_TooLarge) "__getattr__" = some none)
    (y4_TooLarge : PySem.W.hasDictIn K a_TooLarge = true)
    (y5_TooLarge : PySem.W.findIn K (.ref a_TooLarge) "__class__" = some (some (.builtin "object.__class__")))
    (y8_TooLarge : PySem.W.mroIn K a_TooLarge (.type "object") = some true)
    (vV : PySem.W.findCls K (.type "ValueError") (.type "type") "__init__" = some (.val (.builtin "ValueError.__init__")))
    (i1_ReckonError : PySem.W.findIn K (.ref a_ReckonError) "__init__" = some (some (.ref f_c_ReckonError)))
    (i2_ReckonError : PySem.W.typeIn K (.ref f_c_ReckonError) = some (.type "function"))
    (i3_ReckonError : K.lookup f_c_ReckonError = some ⟨oc_c_ReckonError, od_c_ReckonError, .func (PySem.W.fnOf "__init__" "ReckonError.__init__" (defArgs s_c_ReckonError) (defBody s_c_ReckonError) (defScope s_c_ReckonError) (.ref T_c_ReckonError) kV_c_ReckonError dc_c_ReckonError pm_c_ReckonError an_c_ReckonError cd_c_ReckonError ct_c_ReckonError), sl_c_ReckonError⟩)
    (i4_ReckonError : K.lookup T_c_ReckonError = some ⟨oc2_c_ReckonError, od2_c_ReckonError, .seq #[.str "" tk_c_ReckonError, .str "" tk2_c_ReckonError] n_c_ReckonError, sl2_c_ReckonError⟩)
    (i5_ReckonError : PySem.W.codeIn K cd_c_ReckonError "ReckonError.__init__" = true)
    (i6_ReckonError : PySem.W.keepIn K (.ref f_c_ReckonError) = true)
    (g1_R : PySem.W.readsIn K a_ReckonError (.type "type") = true)
    (g2_R : PySem.W.specialIn K (.ref a_ReckonError) "__getattribute__" = some (some (.builtin "type.__getattribute__")))
    (g3_R : PySem.W.findCls K (.ref a_ReckonError) (.type "type") "__init__" = some (.val (.ref f_c_ReckonError)))
    (i1_NotAllowed : PySem.W.findIn K (.ref a_NotAllowed) "__init__" = some (some (.ref f_c_NotAllowed)))
    (i2_NotAllowed : PySem.W.typeIn K (.ref f_c_NotAllowed) = some (.type "function"))
    (i3_NotAllowed : K.lookup f_c_NotAllowed = some ⟨oc_c_NotAllowed, od_c_NotAllowed, .func (PySem.W.fnOf "__init__" "NotAllowed.__init__" (defArgs s_c_NotAllowed) (defBody s_c_NotAllowed) (defScope s_c_NotAllowed) (.ref T_c_NotAllowed) kV_c_NotAllowed dc_c_NotAllowed pm_c_NotAllowed an_c_NotAllowed cd_c_NotAllowed ct_c_NotAllowed), sl_c_NotAllowed⟩)
    (i4_NotAllowed : K.lookup T_c_NotAllowed = some ⟨oc2_c_NotAllowed, od2_c_NotAllowed, .seq #[.str "" tk_c_NotAllowed] n_c_NotAllowed, sl2_c_NotAllowed⟩)
    (i5_NotAllowed : PySem.W.codeIn K cd_c_NotAllowed "NotAllowed.__init__" = true)
    (i6_NotAllowed : PySem.W.keepIn K (.ref f_c_NotAllowed) = true)
    (o1_NotAllowed : K.lookup a_NotAllowed = some (excClassObj "NotAllowed" q_NotAllowed a_NotAllowed N_NotAllowed bs_NotAllowed bm_NotAllowed true sn_NotAllowed sub_NotAllowed ab_NotAllowed col_NotAllowed dd_NotAllowed k0_NotAllowed k1_NotAllowed k2_NotAllowed k3_NotAllowed k5_NotAllowed "ValueError.__new__"))
    (o2_NotAllowed : PySem.HandSPX.refsVE bm_NotAllowed = true)
    (o3_NotAllowed : PySem.W.findIn K (.ref a_NotAllowed) "__setattr__" = some (some (.builtin "object.__setattr__")))
    (o4_NotAllowed : PySem.W.findIn K (.ref a_NotAllowed) "word" = some none)
    (i1_TooLarge : PySem.W.findIn K (.ref a_TooLarge) "__init__" = some (some (.ref f_c_TooLarge)))
    (i2_TooLarge : PySem.W.typeIn K (.ref f_c_TooLarge) = some (.type "function"))
    (i3_TooLarge : K.lookup f_c_TooLarge = some ⟨oc_c_TooLarge, od_c_TooLarge, .func (PySem.W.fnOf "__init__" "TooLarge.__init__" (defArgs s_c_TooLarge) (defBody s_c_TooLarge) (defScope s_c_TooLarge) (.ref T_c_TooLarge) kV_c_TooLarge dc_c_TooLarge pm_c_TooLarge an_c_TooLarge cd_c_TooLarge ct_c_TooLarge), sl_c_TooLarge⟩)
    (i4_TooLarge : K.lookup T_c_TooLarge = some ⟨oc2_c_TooLarge, od2_c_TooLarge, .seq #[.str "" tk_c_TooLarge] n_c_TooLarge, sl2_c_TooLarge⟩)
    (i5_TooLarge : PySem.W.codeIn K cd_c_TooLarge "TooLarge.__init__" = true)
    (i6_TooLarge : PySem.W.keepIn K (.ref f_c_TooLarge) = true)
    (o1_TooLarge : K.lookup a_TooLarge = some (excClassObj "TooLarge" q_TooLarge a_TooLarge N_TooLarge bs_TooLarge bm_TooLarge true sn_TooLarge sub_TooLarge ab_TooLarge col_TooLarge dd_TooLarge k0_TooLarge k1_TooLarge k2_TooLarge k3_TooLarge k5_TooLarge "ValueError.__new__"))
    (o2_TooLarge : PySem.HandSPX.refsVE bm_TooLarge = true)
    (o3_TooLarge : PySem.W.findIn K (.ref a_TooLarge) "__setattr__" = some (some (.builtin "object.__setattr__")))
    (o4_TooLarge : PySem.W.findIn K (.ref a_TooLarge) "word" = some none)
    (y6 : PySem.W.specialIn K (.builtin "object.__class__") "__get__" = some (some (.builtin "getset_descriptor.__get__")))
    (y7 : PySem.W.takesIn K (.builtin "object.__class__") = some true)
    (s_TooLarge_TooLarge : PySem.W.subIn K (.ref a_TooLarge) (.ref a_TooLarge) = some true)
    (z_ValueError : PySem.W.nsIn K mainGlobals "ValueError" = some none)
    (z_int : PySem.W.nsIn K mainGlobals "int" = some none)
    (z_len : PySem.W.nsIn K mainGlobals "len" = some none)
    (z_list : PySem.W.nsIn K mainGlobals "list" = some none)
    (z_max : PySem.W.nsIn K mainGlobals "max" = some none)
    (z_min : PySem.W.nsIn K mainGlobals "min" = some none)
    (z_range : PySem.W.nsIn K mainGlobals "range" = some none)
    (z_sum : PySem.W.nsIn K mainGlobals "sum" = some none)
    (z_tuple : PySem.W.nsIn K mainGlobals "tuple" = some none)
    (z_zip : PySem.W.nsIn K mainGlobals "zip" = some none)
    (w_FIRST_END : PySem.W.nsIn K mainGlobals "FIRST_END" = some (some (.int 8 t_FIRST_END)))
    (w_INTEGER_BITS : PySem.W.nsIn K mainGlobals "INTEGER_BITS" = some (some (.int 512 t_INTEGER_BITS)))
    (w_MAX_GIVEN_BITS : PySem.W.nsIn K mainGlobals "MAX_GIVEN_BITS" = some (some (.int 2900 t_MAX_GIVEN_BITS)))
    (w_MAX_HEIGHT : PySem.W.nsIn K mainGlobals "MAX_HEIGHT" = some (some (.int 40 t_MAX_HEIGHT)))
    (w_MAX_MODULUS : PySem.W.nsIn K mainGlobals "MAX_MODULUS" = some (some (.int 10000 t_MAX_MODULUS)))
    (w_MAX_PRODUCT : PySem.W.nsIn K mainGlobals "MAX_PRODUCT" = some (some (.int 400 t_MAX_PRODUCT)))
    (w_MAX_SIZE : PySem.W.nsIn K mainGlobals "MAX_SIZE" = some (some (.int 300 t_MAX_SIZE)))
    (w_MAX_TERMS : PySem.W.nsIn K mainGlobals "MAX_TERMS" = some (some (.int 400 t_MAX_TERMS)))
    (w_NEAR_BITS : PySem.W.nsIn K mainGlobals "NEAR_BITS" = some (some (.int 64 t_NEAR_BITS)))
    (w_PLACE_BITS : PySem.W.nsIn K mainGlobals "PLACE_BITS" = some (some (.int 9 t_PLACE_BITS)))
    (v1_FIRST_NUMBERS : PySem.W.nsIn K mainGlobals "FIRST_NUMBERS" = some (some (.ref a_FIRST_NUMBERS)))
    (v2_FIRST_NUMBERS : kdat K 14 (.ref a_FIRST_NUMBERS) = some firstD) :
    ∃ fd : FuncData, (∀ (s : Shared) (v : Value), BindsTo s fd ⟨[v], []⟩ [("script", v)]) ∧ ∀ base : Heap, K.In base → base.Ns mainGlobals mg → FnOk l.prog w K mg base CX0 220 fa fd ["script"] (sp_law K) := by
  have e := hfa.symm.trans (PySem.W.mg_of X G a_law)
  cases e
  have F_signed_places := fun_mk (st := s_signed_places) l_signed_places c_signed_places k_signed_places
  have D_signed_places : DefAt K mg "signed_places" s_signed_places ["value"] _ _ := ⟨F_signed_places, PySem.W.mg_of X G a_signed_places, F_signed_places.binds (ps := ["value"]) fun _ _ _ _ _ _ us hl => match us, hl with | [_], _ => rfl⟩
  have F_bare_number := fun_mk (st := s_bare_number) l_bare_number c_bare_number k_bare_number
  have D_bare_number : DefAt K mg "bare_number" s_bare_number ["value"] _ _ := ⟨F_bare_number, PySem.W.mg_of X G a_bare_number, F_bare_number.binds (ps := ["value"]) fun _ _ _ _ _ _ us hl => match us, hl with | [_], _ => rfl⟩
  have F_value_within := fun_mk (st := s_value_within) l_value_within c_value_within k_value_within
  have D_value_within : DefAt K mg "value_within" s_value_within ["number", "bits"] _ _ := ⟨F_value_within, PySem.W.mg_of X G a_value_within, F_value_within.binds (ps := ["number", "bits"]) fun _ _ _ _ _ _ us hl => match us, hl with | [_, _], _ => rfl⟩
  have F_plus_small := fun_mk (st := s_plus_small) l_plus_small c_plus_small k_plus_small
  have D_plus_small : DefAt K mg "plus_small" s_plus_small ["number", "value"] _ _ := ⟨F_plus_small, PySem.W.mg_of X G a_plus_small, F_plus_small.binds (ps := ["number", "value"]) fun _ _ _ _ _ _ us hl => match us, hl with | [_, _], _ => rfl⟩
  have F_order := fun_mk (st := s_order) l_order c_order k_order
  have D_order : DefAt K mg "order" s_order ["first", "second"] _ _ := ⟨F_order, PySem.W.mg_of X G a_order, F_order.binds (ps := ["first", "second"]) fun _ _ _ _ _ _ us hl => match us, hl with | [_, _], _ => rfl⟩
  have F_gap := fun_mk (st := s_gap) l_gap c_gap k_gap
  have D_gap : DefAt K mg "gap" s_gap ["first", "second"] _ _ := ⟨F_gap, PySem.W.mg_of X G a_gap, F_gap.binds (ps := ["first", "second"]) fun _ _ _ _ _ _ us hl => match us, hl with | [_, _], _ => rfl⟩
  have F_terms_at := fun_mk (st := s_terms_at) l_terms_at c_terms_at k_terms_at
  have D_terms_at : DefAt K mg "terms_at" s_terms_at ["base", "value"] _ _ := ⟨F_terms_at, PySem.W.mg_of X G a_terms_at, F_terms_at.binds (ps := ["base", "value"]) fun _ _ _ _ _ _ us hl => match us, hl with | [_, _], _ => rfl⟩
  have F_settled := fun_mk (st := s_settled) l_settled c_settled k_settled
  have D_settled : DefAt K mg "settled" s_settled ["row", "many"] _ _ := ⟨F_settled, PySem.W.mg_of X G a_settled, F_settled.binds (ps := ["row", "many"]) fun _ _ _ _ _ _ us hl => match us, hl with | [_, _], _ => rfl⟩
  have F_plus := fun_mk (st := s_plus) l_plus c_plus k_plus
  have D_plus : DefAt K mg "plus" s_plus ["first", "second"] _ _ := ⟨F_plus, PySem.W.mg_of X G a_plus, F_plus.binds (ps := ["first", "second"]) fun _ _ _ _ _ _ us hl => match us, hl with | [_, _], _ => rfl⟩
  have F_index_in := fun_mk (st := s_index_in) l_index_in c_index_in k_index_in
  have D_index_in : DefAt K mg "index_in" s_index_in ["row", "exponent"] _ _ := ⟨F_index_in, PySem.W.mg_of X G a_index_in, F_index_in.binds (ps := ["row", "exponent"]) fun _ _ _ _ _ _ us hl => match us, hl with | [_, _], _ => rfl⟩
  have F_bare_sum := fun_mk (st := s_bare_sum) l_bare_sum c_bare_sum k_bare_sum
  have D_bare_sum : DefAt K mg "bare_sum" s_bare_sum ["terms"] _ _ := ⟨F_bare_sum, PySem.W.mg_of X G a_bare_sum, F_bare_sum.binds (ps := ["terms"]) fun _ _ _ _ _ _ us hl => match us, hl with | [_], _ => rfl⟩
  have F_bare_shift := fun_mk (st := s_bare_shift) l_bare_shift c_bare_shift k_bare_shift
  have D_bare_shift : DefAt K mg "bare_shift" s_bare_shift ["terms", "places"] _ _ := ⟨F_bare_shift, PySem.W.mg_of X G a_bare_shift, F_bare_shift.binds (ps := ["terms", "places"]) fun _ _ _ _ _ _ us hl => match us, hl with | [_, _], _ => rfl⟩
  have F_levels := fun_mk (st := s_levels) l_levels c_levels k_levels
  have D_levels : DefAt K mg "levels" s_levels ["number"] _ _ := ⟨F_levels, PySem.W.mg_of X G a_levels, F_levels.binds (ps := ["number"]) fun _ _ _ _ _ _ us hl => match us, hl with | [_], _ => rfl⟩
  have F_is_allowed := fun_mk (st := s_is_allowed) l_is_allowed c_is_allowed k_is_allowed
  have D_is_allowed : DefAt K mg "is_allowed" s_is_allowed ["number"] _ _ := ⟨F_is_allowed, PySem.W.mg_of X G a_is_allowed, F_is_allowed.binds (ps := ["number"]) fun _ _ _ _ _ _ us hl => match us, hl with | [_], _ => rfl⟩
  have F_allowed := fun_mk (st := s_allowed) l_allowed c_allowed k_allowed
  have D_allowed : DefAt K mg "allowed" s_allowed ["number"] _ _ := ⟨F_allowed, PySem.W.mg_of X G a_allowed, F_allowed.binds (ps := ["number"]) fun _ _ _ _ _ _ us hl => match us, hl with | [_], _ => rfl⟩
  have F_sign_of := fun_mk (st := s_sign_of) l_sign_of c_sign_of k_sign_of
  have D_sign_of : DefAt K mg "sign_of" s_sign_of ["number"] _ _ := ⟨F_sign_of, PySem.W.mg_of X G a_sign_of, F_sign_of.binds (ps := ["number"]) fun _ _ _ _ _ _ us hl => match us, hl with | [_], _ => rfl⟩
  have F_of_int := fun_mk (st := s_of_int) l_of_int c_of_int k_of_int
  have D_of_int : DefAt K mg "of_int" s_of_int ["value"] _ _ := ⟨F_of_int, PySem.W.mg_of X G a_of_int, F_of_int.binds (ps := ["value"]) fun _ _ _ _ _ _ us hl => match us, hl with | [_], _ => rfl⟩
  have F_check_modulus := fun_mk (st := s_check_modulus) l_check_modulus c_check_modulus k_check_modulus
  have D_check_modulus : DefAt K mg "check_modulus" s_check_modulus ["m"] _ _ := ⟨F_check_modulus, PySem.W.mg_of X G a_check_modulus, F_check_modulus.binds (ps := ["m"]) fun _ _ _ _ _ _ us hl => match us, hl with | [_], _ => rfl⟩
  have F_power_row := fun_mk (st := s_power_row) l_power_row c_power_row k_power_row
  have D_power_row : DefAt K mg "power_row" s_power_row ["m"] _ _ := ⟨F_power_row, PySem.W.mg_of X G a_power_row, F_power_row.binds (ps := ["m"]) fun _ _ _ _ _ _ us hl => match us, hl with | [_], _ => rfl⟩
  have F_power_rows := fun_mk (st := s_power_rows) l_power_rows c_power_rows k_power_rows
  have D_power_rows : DefAt K mg "power_rows" s_power_rows ["m"] _ _ := ⟨F_power_rows, PySem.W.mg_of X G a_power_rows, F_power_rows.binds (ps := ["m"]) fun _ _ _ _ _ _ us hl => match us, hl with | [_], _ => rfl⟩
  have F_power_by_rows := fun_mk (st := s_power_by_rows) l_power_by_rows c_power_by_rows k_power_by_rows
  have D_power_by_rows : DefAt K mg "power_by_rows" s_power_by_rows ["exponent", "rows", "at"] _ _ := ⟨F_power_by_rows, PySem.W.mg_of X G a_power_by_rows, F_power_by_rows.binds (ps := ["exponent", "rows", "at"]) fun _ _ _ _ _ _ us hl => match us, hl with | [_, _, _], _ => rfl⟩
  have F_number_by_rows := fun_mk (st := s_number_by_rows) l_number_by_rows c_number_by_rows k_number_by_rows
  have D_number_by_rows : DefAt K mg "number_by_rows" s_number_by_rows ["x", "rows", "at"] _ _ := ⟨F_number_by_rows, PySem.W.mg_of X G a_number_by_rows, F_number_by_rows.binds (ps := ["x", "rows", "at"]) fun _ _ _ _ _ _ us hl => match us, hl with | [_, _, _], _ => rfl⟩
  have F_remainder := fun_mk (st := s_remainder) l_remainder c_remainder k_remainder
  have D_remainder : DefAt K mg "remainder" s_remainder ["x", "m"] _ _ := ⟨F_remainder, PySem.W.mg_of X G a_remainder, F_remainder.binds (ps := ["x", "m"]) fun _ _ _ _ _ _ us hl => match us, hl with | [_, _], _ => rfl⟩
  have F_power_remainder := fun_mk (st := s_power_remainder) l_power_remainder c_power_remainder k_power_remainder
  have D_power_remainder : DefAt K mg "power_remainder" s_power_remainder ["exponent", "m"] _ _ := ⟨F_power_remainder, PySem.W.mg_of X G a_power_remainder, F_power_remainder.binds (ps := ["exponent", "m"]) fun _ _ _ _ _ _ us hl => match us, hl with | [_, _], _ => rfl⟩
  have F_multiply := fun_mk (st := s_multiply) l_multiply c_multiply k_multiply
  have D_multiply : DefAt K mg "multiply" s_multiply ["first", "second"] _ _ := ⟨F_multiply, PySem.W.mg_of X G a_multiply, F_multiply.binds (ps := ["first", "second"]) fun _ _ _ _ _ _ us hl => match us, hl with | [_, _], _ => rfl⟩
  have F_negate := fun_mk (st := s_negate) l_negate c_negate k_negate
  have D_negate : DefAt K mg "negate" s_negate ["number"] _ _ := ⟨F_negate, PySem.W.mg_of X G a_negate, F_negate.binds (ps := ["number"]) fun _ _ _ _ _ _ us hl => match us, hl with | [_], _ => rfl⟩
  have F_add := fun_mk (st := s_add) l_add c_add k_add
  have D_add : DefAt K mg "add" s_add ["first", "second"] _ _ := ⟨F_add, PySem.W.mg_of X G a_add, F_add.binds (ps := ["first", "second"]) fun _ _ _ _ _ _ us hl => match us, hl with | [_, _], _ => rfl⟩
  have F_subtract := fun_mk (st := s_subtract) l_subtract c_subtract k_subtract
  have D_subtract : DefAt K mg "subtract" s_subtract ["first", "second"] _ _ := ⟨F_subtract, PySem.W.mg_of X G a_subtract, F_subtract.binds (ps := ["first", "second"]) fun _ _ _ _ _ _ us hl => match us, hl with | [_, _], _ => rfl⟩
  have F_sum_terms := fun_mk (st := s_sum_terms) l_sum_terms c_sum_terms k_sum_terms
  have D_sum_terms : DefAt K mg "sum_terms" s_sum_terms ["terms"] _ _ := ⟨F_sum_terms, PySem.W.mg_of X G a_sum_terms, F_sum_terms.binds (ps := ["terms"]) fun _ _ _ _ _ _ us hl => match us, hl with | [_], _ => rfl⟩
  have F_law_cell := fun_mk (st := s_law_cell) l_law_cell c_law_cell k_law_cell
  have D__law_cell : DefAt K mg "_law_cell" s_law_cell ["script", "k"] _ _ := ⟨F_law_cell, PySem.W.mg_of X G a_law_cell, F_law_cell.binds (ps := ["script", "k"]) fun _ _ _ _ _ _ us hl => match us, hl with | [_, _], _ => rfl⟩
  have F_law_numbers := fun_mk (st := s_law_numbers) l_law_numbers c_law_numbers k_law_numbers
  have D__law_numbers : DefAt K mg "_law_numbers" s_law_numbers ["cell", "k", "many"] _ _ := ⟨F_law_numbers, PySem.W.mg_of X G a_law_numbers, F_law_numbers.binds (ps := ["cell", "k", "many"]) fun _ _ _ _ _ _ us hl => match us, hl with | [_, _, _], _ => rfl⟩
  have F_law_great := fun_mk (st := s_law_great) l_law_great c_law_great k_law_great
  have D__law_great : DefAt K mg "_law_great" s_law_great ["numbers", "at", "depth"] _ _ := ⟨F_law_great, PySem.W.mg_of X G a_law_great, F_law_great.binds (ps := ["numbers", "at", "depth"]) fun _ _ _ _ _ _ us hl => match us, hl with | [_, _, _], _ => rfl⟩
  have F_law_small := fun_mk (st := s_law_small) l_law_small c_law_small k_law_small
  have D__law_small : DefAt K mg "_law_small" s_law_small ["number"] _ _ := ⟨F_law_small, PySem.W.mg_of X G a_law_small, F_law_small.binds (ps := ["number"]) fun _ _ _ _ _ _ us hl => match us, hl with | [_], _ => rfl⟩
  have F_law_remainder := fun_mk (st := s_law_remainder) l_law_remainder c_law_remainder k_law_remainder
  have D__law_remainder : DefAt K mg "_law_remainder" s_law_remainder ["number", "m"] _ _ := ⟨F_law_remainder, PySem.W.mg_of X G a_law_remainder, F_law_remainder.binds (ps := ["number", "m"]) fun _ _ _ _ _ _ us hl => match us, hl with | [_, _], _ => rfl⟩
  have F_law_power := fun_mk (st := s_law_power) l_law_power c_law_power k_law_power
  have D__law_power : DefAt K mg "_law_power" s_law_power ["exponent", "m"] _ _ := ⟨F_law_power, PySem.W.mg_of X G a_law_power, F_law_power.binds (ps := ["exponent", "m"]) fun _ _ _ _ _ _ us hl => match us, hl with | [_, _], _ => rfl⟩
  have F_law_pair := fun_mk (st := s_law_pair) l_law_pair c_law_pair k_law_pair
  have D__law_pair : DefAt K mg "_law_pair" s_law_pair ["first", "second", "m"] _ _ := ⟨F_law_pair, PySem.W.mg_of X G a_law_pair, F_law_pair.binds (ps := ["first", "second", "m"]) fun _ _ _ _ _ _ us hl => match us, hl with | [_, _, _], _ => rfl⟩
  have F_law := fun_mk (st := s_law) l_law c_law k_law
  have D_law : DefAt K mg "law" s_law ["script"] _ _ := ⟨F_law, PySem.W.mg_of X G a_law, F_law.binds (ps := ["script"]) fun _ _ _ _ _ _ us hl => match us, hl with | [_], _ => rfl⟩
  have C_NotAllowed : ClsAt K mg "NotAllowed" a_NotAllowed := ⟨PySem.W.mg_of X G x1_NotAllowed, x2_NotAllowed, x4_NotAllowed, x5_NotAllowed, ⟨y1_NotAllowed, y2_NotAllowed, x4_NotAllowed, y4_NotAllowed, y5_NotAllowed, y6, y7, y8_NotAllowed⟩⟩
  have C_ReckonError : ClsAt K mg "ReckonError" a_ReckonError := ⟨PySem.W.mg_of X G x1_ReckonError, x2_ReckonError, x4_ReckonError, x5_ReckonError, ⟨y1_ReckonError, y2_ReckonError, x4_ReckonError, y4_ReckonError, y5_ReckonError, y6, y7, y8_ReckonError⟩⟩
  have C_TooLarge : ClsAt K mg "TooLarge" a_TooLarge := ⟨PySem.W.mg_of X G x1_TooLarge, x2_TooLarge, x4_TooLarge, x5_TooLarge, ⟨y1_TooLarge, y2_TooLarge, x4_TooLarge, y4_TooLarge, y5_TooLarge, y6, y7, y8_TooLarge⟩⟩
  have b_ValueError := PySem.W.mg_none_of X G z_ValueError
  have b_int := PySem.W.mg_none_of X G z_int
  have b_len := PySem.W.mg_none_of X G z_len
  have b_list := PySem.W.mg_none_of X G z_list
  have b_max := PySem.W.mg_none_of X G z_max
  have b_min := PySem.W.mg_none_of X G z_min
  have b_range := PySem.W.mg_none_of X G z_range
  have b_sum := PySem.W.mg_none_of X G z_sum
  have b_tuple := PySem.W.mg_none_of X G z_tuple
  have b_zip := PySem.W.mg_none_of X G z_zip
  have m_FIRST_END := PySem.W.mg_of X G w_FIRST_END
  have m_INTEGER_BITS := PySem.W.mg_of X G w_INTEGER_BITS
  have m_MAX_GIVEN_BITS := PySem.W.mg_of X G w_MAX_GIVEN_BITS
  have m_MAX_HEIGHT := PySem.W.mg_of X G w_MAX_HEIGHT
  have m_MAX_MODULUS := PySem.W.mg_of X G w_MAX_MODULUS
  have m_MAX_PRODUCT := PySem.W.mg_of X G w_MAX_PRODUCT
  have m_MAX_SIZE := PySem.W.mg_of X G w_MAX_SIZE
  have m_MAX_TERMS := PySem.W.mg_of X G w_MAX_TERMS
  have m_NEAR_BITS := PySem.W.mg_of X G w_NEAR_BITS
  have m_PLACE_BITS := PySem.W.mg_of X G w_PLACE_BITS
  have m_FIRST_NUMBERS := PySem.W.mg_of X G v1_FIRST_NUMBERS
  have d_FIRST_NUMBERS : FirstAt K a_FIRST_NUMBERS := first_mk v2_FIRST_NUMBERS
  have hex := PySem.W.exm_ref x4_TooLarge y4_TooLarge x5_TooLarge s_TooLarge_TooLarge
  refine ⟨PySem.W.fnOf "law" "law" (defArgs s_law) (defBody s_law) (defScope s_law) .none kV_law dc_law pm_law an_law cd_law ct_law, fun s v => .of_eq rfl, fun base _ _ => ?_⟩
  have I_R := init_mk2 (st := s_c_ReckonError) i3_ReckonError i4_ReckonError i5_ReckonError i6_ReckonError
  have B_R := binds_full (I_R.binds1 (ps := ["self", "why", "word"]) 3 2 (by simp) rfl (fun T kV doc pm an cdv ct us its hl hi => match us, its, hl, hi with | [_, _, _], [_, _], _, _ => ⟨_, rfl, rfl⟩)) rfl
  have G_R := ok_c_ReckonError (P := l.prog) (w := w) (base := base) I_R b_ValueError vV
  have I_NotAllowed := init_mk1 (st := s_c_NotAllowed) i3_NotAllowed i4_NotAllowed i5_NotAllowed i6_NotAllowed
  have B_NotAllowed := binds_full (I_NotAllowed.binds1 (ps := ["self", "why"]) 2 1 (by simp) rfl (fun T kV doc pm an cdv ct us its hl hi => match us, its, hl, hi with | [_, _], [_], _, _ => ⟨_, rfl, rfl⟩)) rfl
  have X_NotAllowed : ErrC l.prog w K mg base "NotAllowed" a_NotAllowed := ⟨C_NotAllowed.m, (oex_mk o1_NotAllowed o2_NotAllowed o3_NotAllowed C_NotAllowed).1, (oex_mk o1_NotAllowed o2_NotAllowed o3_NotAllowed C_NotAllowed).2, o4_NotAllowed, _, _, i1_NotAllowed, i2_NotAllowed, B_NotAllowed, ok_c_NotAllowed (P := l.prog) (w := w) (base := base) I_NotAllowed C_ReckonError.m ⟨g1_R, g2_R⟩ ⟨g3_R, rfl⟩ i6_ReckonError G_R B_R⟩
  have I_TooLarge := init_mk1 (st := s_c_TooLarge) i3_TooLarge i4_TooLarge i5_TooLarge i6_TooLarge
  have B_TooLarge := binds_full (I_TooLarge.binds1 (ps := ["self", "why"]) 2 1 (by simp) rfl (fun T kV doc pm an cdv ct us its hl hi => match us, its, hl, hi with | [_, _], [_], _, _ => ⟨_, rfl, rfl⟩)) rfl
  have X_TooLarge : ErrC l.prog w K mg base "TooLarge" a_TooLarge := ⟨C_TooLarge.m, (oex_mk o1_TooLarge o2_TooLarge o3_TooLarge C_TooLarge).1, (oex_mk o1_TooLarge o2_TooLarge o3_TooLarge C_TooLarge).2, o4_TooLarge, _, _, i1_TooLarge, i2_TooLarge, B_TooLarge, ok_c_TooLarge (P := l.prog) (w := w) (base := base) I_TooLarge C_ReckonError.m ⟨g1_R, g2_R⟩ ⟨g3_R, rfl⟩ i6_ReckonError G_R B_R⟩
  have G_signed_places := ok_signed_places (P := l.prog) (w := w) (base := base) (k := 0) D_signed_places     
  have G_bare_number := all_bare_number (P := l.prog) (w := w) (base := base) D_bare_number  D_signed_places G_signed_places b_tuple m_FIRST_END m_FIRST_NUMBERS d_FIRST_NUMBERS 7
  have G_value_within := all_value_within (P := l.prog) (w := w) (base := base) D_value_within    m_FIRST_END m_FIRST_NUMBERS d_FIRST_NUMBERS 45
  have G_plus_small := ok_plus_small (P := l.prog) (w := w) (base := base) (k := 45) D_plus_small  D_value_within G_value_within (by decide) D_bare_number G_bare_number (by decide) b_len  
  have G_order := ok_order (P := l.prog) (w := w) (base := base) (k := 0) D_order   b_zip b_len  
  have G_gap := ok_gap (P := l.prog) (w := w) (base := base) (k := 45) D_gap  D_value_within G_value_within (by decide) b_zip b_len m_NEAR_BITS 
  have G_terms_at := ok_terms_at (P := l.prog) (w := w) (base := base) (k := 46) D_terms_at  D_signed_places G_signed_places (by decide) D_plus_small G_plus_small (by decide)   
  have G_settled := ok_settled (P := l.prog) (w := w) (base := base) (k := 47) D_settled  D_gap G_gap (by decide) D_terms_at G_terms_at (by decide) b_len b_tuple  
  have G_plus := ok_plus (P := l.prog) (w := w) (base := base) (k := 48) D_plus  D_value_within G_value_within (by decide) D_plus_small G_plus_small (by decide) D_order G_order (by decide) D_settled G_settled (by decide) b_len b_list m_INTEGER_BITS 
  have G_index_in := ok_index_in (P := l.prog) (w := w) (base := base) (k := 1) D_index_in  D_order G_order (by decide) b_len  
  have G_bare_sum := ok_bare_sum (P := l.prog) (w := w) (base := base) (k := 48) D_bare_sum  D_value_within G_value_within (by decide) D_index_in G_index_in (by decide) D_plus_small G_plus_small (by decide) D_settled G_settled (by decide) b_len m_PLACE_BITS 
  have G_bare_shift := ok_bare_shift (P := l.prog) (w := w) (base := base) (k := 49) D_bare_shift  D_value_within G_value_within (by decide) D_plus_small G_plus_small (by decide) D_plus G_plus (by decide) b_tuple m_INTEGER_BITS 
  have G_levels := ok_levels (P := l.prog) (w := w) (base := base) (k := 0) D_levels     
  have G_is_allowed := ok_is_allowed (P := l.prog) (w := w) (base := base) (k := 1) D_is_allowed  D_levels G_levels (by decide) b_sum b_len m_MAX_SIZE m_MAX_HEIGHT 
  have G_allowed := ok_allowed (P := l.prog) (w := w) (base := base) (k := 3) D_allowed C_TooLarge X_TooLarge (by decide) D_is_allowed G_is_allowed (by decide)   
  have G_sign_of := ok_sign_of (P := l.prog) (w := w) (base := base) (k := 0) D_sign_of     
  have G_of_int := ok_of_int (P := l.prog) (w := w) (base := base) (k := 8) D_of_int C_NotAllowed C_TooLarge X_NotAllowed (by decide) D_allowed G_allowed (by decide) D_bare_number G_bare_number (by decide)  m_MAX_GIVEN_BITS 
  have G_check_modulus := ok_check_modulus (P := l.prog) (w := w) (base := base) (k := 3) D_check_modulus C_NotAllowed X_NotAllowed (by decide)   m_MAX_MODULUS 
  have G_power_row := ok_power_row (P := l.prog) (w := w) (base := base) (k := 0) D_power_row   b_len  
  have G_power_rows := ok_power_rows (P := l.prog) (w := w) (base := base) (k := 1) D_power_rows  D_power_row G_power_row (by decide) b_len  
  have G_power_by_rows := True.intro
  have G_number_by_rows := (all_by_rows (P := l.prog) (w := w) (base := base) D_number_by_rows D_power_by_rows D_value_within G_value_within b_len b_sum 45).1
  have G_remainder := ok_remainder (P := l.prog) (w := w) (base := base) (k := 136) D_remainder C_NotAllowed D_check_modulus G_check_modulus (by decide) D_number_by_rows G_number_by_rows (by decide) D_power_rows G_power_rows (by decide)   
  have G_power_remainder := ok_power_remainder (P := l.prog) (w := w) (base := base) (k := 137) D_power_remainder C_NotAllowed X_NotAllowed (by decide) D_check_modulus G_check_modulus (by decide) D_sign_of G_sign_of (by decide) D_remainder G_remainder (by decide)   
  have G_multiply := ok_multiply (P := l.prog) (w := w) (base := base) (k := 50) D_multiply C_TooLarge X_TooLarge (by decide) D_allowed G_allowed (by decide) D_bare_sum G_bare_sum (by decide) D_bare_shift G_bare_shift (by decide) b_len m_MAX_PRODUCT 
  have G_negate := ok_negate (P := l.prog) (w := w) (base := base) (k := 0) D_negate   b_tuple  
  have G_add := ok_add (P := l.prog) (w := w) (base := base) (k := 49) D_add C_TooLarge D_allowed G_allowed (by decide) D_plus G_plus (by decide)   
  have G_subtract := ok_subtract (P := l.prog) (w := w) (base := base) (k := 50) D_subtract C_TooLarge D_add G_add (by decide) D_negate G_negate (by decide)   
  have G_sum_terms := ok_sum_terms (P := l.prog) (w := w) (base := base) (k := 49) D_sum_terms C_NotAllowed C_TooLarge X_NotAllowed X_TooLarge (by decide) D_sign_of G_sign_of (by decide) D_allowed G_allowed (by decide) D_bare_sum G_bare_sum (by decide) b_len m_MAX_TERMS 
  have G__law_cell := ok_law_cell (P := l.prog) (w := w) (base := base) (k := 0) D__law_cell   b_len  
  have G__law_numbers := ok_law_numbers (P := l.prog) (w := w) (base := base) (k := 0) D__law_numbers   b_range b_int  
  have G__law_great := all_law_great (P := l.prog) (w := w) (base := base) D__law_great C_NotAllowed C_TooLarge D_of_int G_of_int D_sign_of G_sign_of D_negate G_negate D_sum_terms G_sum_terms b_int b_len b_range  5
  have G__law_small := all_law_small (P := l.prog) (w := w) (base := base) D__law_small     14
  have G__law_remainder := (all_law_rp (P := l.prog) (w := w) (base := base) D__law_remainder D__law_power D__law_small G__law_small b_int b_range b_len 14).1
  have G__law_power := (all_law_rp (P := l.prog) (w := w) (base := base) D__law_remainder D__law_power D__law_small G__law_small b_int b_range b_len 13).2
  have G__law_pair := ok_law_pair (P := l.prog) (w := w) (base := base) (k := 137) D__law_pair C_NotAllowed C_TooLarge D_remainder G_remainder (by decide) D_add G_add (by decide) D_subtract G_subtract (by decide) D_multiply G_multiply (by decide) b_int  hex
  have G_law := ok_law (P := l.prog) (w := w) (base := base) (k := 138) D_law C_NotAllowed D__law_numbers G__law_numbers (by decide) D__law_cell G__law_cell (by decide) D__law_great G__law_great (by decide) D_remainder G_remainder (by decide) D__law_remainder G__law_remainder (by decide) D__law_pair G__law_pair (by decide) D_sign_of G_sign_of (by decide) D_negate G_negate (by decide) D_power_remainder G_power_remainder (by decide) D__law_power G__law_power (by decide) b_range b_max b_min b_len b_int  
  exact G_law.mono (by decide)
theorem walk {l : PySem.W.OpenLaw} {q : Program} {loose : List Str} {XP : (Str → Option Value) → Heap → Prop} {YP : World → Heap → Prop} {d : DefRec} {K : Params → PySem.W.Frag} (hn : l.most = some 63) (hdf : d.params.defaults = [])
    (hY : ∀ (w : World) (h : Heap), YP w h → (K w.params).In h)
    (F : ∀ (w : World) (mg : Str → Option Value) (fa : Addr) (h : Heap), (K w.params).In h → h.Ns mainGlobals mg → mg d.name = some (.ref fa) →
      ∃ fd : FuncData, (∀ (s : Shared) (u : Value), BindsTo s fd ⟨[u], []⟩ [("script", u)]) ∧ ∀ base : Heap, (K w.params).In base → base.Ns mainGlobals mg → FnOk l.prog w (K w.params) mg base CX0 220 fa fd ["script"] (sp_law (K w.params))) :
    PySem.W.WalkO q loose XP YP l.row.toRowW d [] (fun f vs => PySem.call f vs) :=
  L2.walk_of (n := 63) (k := 220) (x := "script") (CX := fun _ => CX0) (sp := fun w => sp_law (K w.params)) hn (by decide) hdf ⟨rfl, by decide, by decide⟩ hY F (fun _ _ a ns hl _ hS => ⟨.ref a, _, rfl, ⟨a, ns, rfl, hS, hl, rfl⟩, fun _ _ _ z => z⟩) fun _ _ _ _ _ z => z
end Sk
open PySem PySem.W PyProof.Rows
set_option maxRecDepth 100000 in
set_option maxHeartbeats 0 in
theorem PySem.Challenge.cw_sandreckoner_k16_remainders_of_great_num_holds : PySem.Challenge.rw_sandreckoner_k16_remainders_of_great_num.Holds := by
  w_on; o_law; k_head; (case hw => w_witness2)
  k_fill
  refine Sk.walk (l := PySem.Challenge.rw_sandreckoner_k16_remainders_of_great_num) rfl rfl (fun w h Y => PySem.W.kIn_of Y) ?F
  case F =>
    intro w mg fa h KX G hmg
    refine' Sk.all_mk KX G hmg ?a_signed_places ?l_signed_places ?c_signed_places ?k_signed_places ?a_bare_number ?l_bare_number ?c_bare_number ?k_bare_number ?a_value_within ?l_value_within ?c_value_within ?k_value_within ?a_plus_small ?l_plus_small ?c_plus_small ?k_plus_small ?a_order ?l_order ?c_order ?k_order ?a_gap ?l_gap ?c_gap ?k_gap ?a_terms_at ?l_terms_at ?c_terms_at ?k_terms_at ?a_settled ?l_settled ?c_settled ?k_settled ?a_plus ?l_plus ?c_plus ?k_plus ?a_index_in ?l_index_in ?c_index_in ?k_index_in ?a_bare_sum ?l_bare_sum ?c_bare_sum ?k_bare_sum ?a_bare_shift ?l_bare_shift ?c_bare_shift ?k_bare_shift ?a_levels ?l_levels ?c_levels ?k_levels ?a_is_allowed ?l_is_allowed ?c_is_allowed ?k_is_allowed ?a_allowed ?l_allowed ?c_allowed ?k_allowed ?a_sign_of ?l_sign_of ?c_sign_of ?k_sign_of ?a_of_int ?l_of_int ?c_of_int ?k_of_int ?a_check_modulus ?l_check_modulus ?c_check_modulus ?k_check_modulus ?a_power_row ?l_power_row ?c_power_row ?k_power_row ?a_power_rows ?l_power_rows ?c_power_rows ?k_power_rows ?a_power_by_rows ?l_power_by_rows ?c_power_by_rows ?k_power_by_rows ?a_number_by_rows ?l_number_by_rows ?c_number_by_rows ?k_number_by_rows ?a_remainder ?l_remainder ?c_remainder ?k_remainder ?a_power_remainder ?l_power_remainder ?c_power_remainder ?k_power_remainder ?a_multiply ?l_multiply ?c_multiply ?k_multiply ?a_negate ?l_negate ?c_negate ?k_negate ?a_add ?l_add ?c_add ?k_add ?a_subtract ?l_subtract ?c_subtract ?k_subtract ?a_sum_terms ?l_sum_terms ?c_sum_terms ?k_sum_terms ?a_law_cell ?l_law_cell ?c_law_cell ?k_law_cell ?a_law_numbers ?l_law_numbers ?c_law_numbers ?k_law_numbers ?a_law_great ?l_law_great ?c_law_great ?k_law_great ?a_law_small ?l_law_small ?c_law_small ?k_law_small ?a_law_remainder ?l_law_remainder ?c_law_remainder ?k_law_remainder ?a_law_power ?l_law_power ?c_law_power ?k_law_power ?a_law_pair ?l_law_pair ?c_law_pair ?k_law_pair ?a_law ?l_law ?c_law ?k_law ?x1_NotAllowed ?x2_NotAllowed ?x4_NotAllowed ?x5_NotAllowed ?y1_NotAllowed ?y2_NotAllowed ?y4_NotAllowed ?y5_NotAllowed ?y8_NotAllowed ?x1_ReckonError ?x2_ReckonError ?x4_ReckonError ?x5_ReckonError ?y1_ReckonError ?y2_ReckonError ?y4_ReckonError ?y5_ReckonError ?y8_ReckonError ?x1_TooLarge ?x2_TooLarge ?x4_TooLarge ?x5_TooLarge ?y1_TooLarge ?y2_TooLarge ?y4_TooLarge ?y5_TooLarge ?y8_TooLarge ?vV ?i1_ReckonError ?i2_ReckonError ?i3_ReckonError ?i4_ReckonError ?i5_ReckonError ?i6_ReckonError ?g1_R ?g2_R ?g3_R ?i1_NotAllowed ?i2_NotAllowed ?i3_NotAllowed ?i4_NotAllowed ?i5_NotAllowed ?i6_NotAllowed ?o1_NotAllowed ?o2_NotAllowed ?o3_NotAllowed ?o4_NotAllowed ?i1_TooLarge ?i2_TooLarge ?i3_TooLarge ?i4_TooLarge ?i5_TooLarge ?i6_TooLarge ?o1_TooLarge ?o2_TooLarge ?o3_TooLarge ?o4_TooLarge ?y6 ?y7 ?s_TooLarge_TooLarge ?z_ValueError ?z_int ?z_len ?z_list ?z_max ?z_min ?z_range ?z_sum ?z_tuple ?z_zip ?w_FIRST_END ?w_INTEGER_BITS ?w_MAX_GIVEN_BITS ?w_MAX_HEIGHT ?w_MAX_MODULUS ?w_MAX_PRODUCT ?w_MAX_SIZE ?w_MAX_TERMS ?w_NEAR_BITS ?w_PLACE_BITS ?v1_FIRST_NUMBERS ?v2_FIRST_NUMBERS
    (case a_signed_places => k_is)
    (case l_signed_places => k_is)
    (case c_signed_places => k_is)
    (case k_signed_places => k_is)
    (case a_bare_number => k_is)
    (case l_bare_number => k_is)
    (case c_bare_number => k_is)
    (case k_bare_number => k_is)
    (case a_value_within => k_is)
    (case l_value_within => k_is)
    (case c_value_within => k_is)
    (case k_value_within => k_is)
    (case a_plus_small => k_is)
    (case l_plus_small => k_is)
    (case c_plus_small => k_is)
    (case k_plus_small => k_is)
    (case a_order => k_is)
    (case l_order => k_is)
    (case c_order => k_is)
    (case k_order => k_is)
    (case a_gap => k_is)
    (case l_gap => k_is)
    (case c_gap => k_is)
    (case k_gap => k_is)
    (case a_terms_at => k_is)
    (case l_terms_at => k_is)
    (case c_terms_at => k_is)
    (case k_terms_at => k_is)
    (case a_settled => k_is)
    (case l_settled => k_is)
    (case c_settled => k_is)
    (case k_settled => k_is)
    (case a_plus => k_is)
    (case l_plus => k_is)
    (case c_plus => k_is)
    (case k_plus => k_is)
    (case a_index_in => k_is)
    (case l_index_in => k_is)
    (case c_index_in => k_is)
    (case k_index_in => k_is)
    (case a_bare_sum => k_is)
    (case l_bare_sum => k_is)
    (case c_bare_sum => k_is)
    (case k_bare_sum => k_is)
    (case a_bare_shift => k_is)
    (case l_bare_shift => k_is)
    (case c_bare_shift => k_is)
    (case k_bare_shift => k_is)
    (case a_levels => k_is)
    (case l_levels => k_is)
    (case c_levels => k_is)
    (case k_levels => k_is)
    (case a_is_allowed => k_is)
    (case l_is_allowed => k_is)
    (case c_is_allowed => k_is)
    (case k_is_allowed => k_is)
    (case a_allowed => k_is)
    (case l_allowed => k_is)
    (case c_allowed => k_is)
    (case k_allowed => k_is)
    (case a_sign_of => k_is)
    (case l_sign_of => k_is)
    (case c_sign_of => k_is)
    (case k_sign_of => k_is)
    (case a_of_int => k_is)
    (case l_of_int => k_is)
    (case c_of_int => k_is)
    (case k_of_int => k_is)
    (case a_check_modulus => k_is)
    (case l_check_modulus => k_is)
    (case c_check_modulus => k_is)
    (case k_check_modulus => k_is)
    (case a_power_row => k_is)
    (case l_power_row => k_is)
    (case c_power_row => k_is)
    (case k_power_row => k_is)
    (case a_power_rows => k_is)
    (case l_power_rows => k_is)
    (case c_power_rows => k_is)
    (case k_power_rows => k_is)
    (case a_power_by_rows => k_is)
    (case l_power_by_rows => k_is)
    (case c_power_by_rows => k_is)
    (case k_power_by_rows => k_is)
    (case a_number_by_rows => k_is)
    (case l_number_by_rows => k_is)
    (case c_number_by_rows => k_is)
    (case k_number_by_rows => k_is)
    (case a_remainder => k_is)
    (case l_remainder => k_is)
    (case c_remainder => k_is)
    (case k_remainder => k_is)
    (case a_power_remainder => k_is)
    (case l_power_remainder => k_is)
    (case c_power_remainder => k_is)
    (case k_power_remainder => k_is)
    (case a_multiply => k_is)
    (case l_multiply => k_is)
    (case c_multiply => k_is)
    (case k_multiply => k_is)
    (case a_negate => k_is)
    (case l_negate => k_is)
    (case c_negate => k_is)
    (case k_negate => k_is)
    (case a_add => k_is)
    (case l_add => k_is)
    (case c_add => k_is)
    (case k_add => k_is)
    (case a_subtract => k_is)
    (case l_subtract => k_is)
    (case c_subtract => k_is)
    (case k_subtract => k_is)
    (case a_sum_terms => k_is)
    (case l_sum_terms => k_is)
    (case c_sum_terms => k_is)
    (case k_sum_terms => k_is)
    (case a_law_cell => k_is)
    (case l_law_cell => k_is)
    (case c_law_cell => k_is)
    (case k_law_cell => k_is)
    (case a_law_numbers => k_is)
    (case l_law_numbers => k_is)
    (case c_law_numbers => k_is)
    (case k_law_numbers => k_is)
    (case a_law_great => k_is)
    (case l_law_great => k_is)
    (case c_law_great => k_is)
    (case k_law_great => k_is)
    (case a_law_small => k_is)
    (case l_law_small => k_is)
    (case c_law_small => k_is)
    (case k_law_small => k_is)
    (case a_law_remainder => k_is)
    (case l_law_remainder => k_is)
    (case c_law_remainder => k_is)
    (case k_law_remainder => k_is)
    (case a_law_power => k_is)
    (case l_law_power => k_is)
    (case c_law_power => k_is)
    (case k_law_power => k_is)
    (case a_law_pair => k_is)
    (case l_law_pair => k_is)
    (case c_law_pair => k_is)
    (case k_law_pair => k_is)
    (case a_law => k_is)
    (case l_law => k_is)
    (case c_law => k_is)
    (case k_law => k_is)
    (case x1_NotAllowed => k_is)
    (case x2_NotAllowed => k_is)
    (case x4_NotAllowed => k_is)
    (case x5_NotAllowed => k_is)
    (case y1_NotAllowed => k_is)
    (case y2_NotAllowed => k_is)
    (case y4_NotAllowed => k_is)
    (case y5_NotAllowed => k_is)
    (case y8_NotAllowed => k_is)
    (case x1_ReckonError => k_is)
    (case x2_ReckonError => k_is)
    (case x4_ReckonError => k_is)
    (case x5_ReckonError => k_is)
    (case y1_ReckonError => k_is)
    (case y2_ReckonError => k_is)
    (case y4_ReckonError => k_is)
    (case y5_ReckonError => k_is)
    (case y8_ReckonError => k_is)
    (case x1_TooLarge => k_is)
    (case x2_TooLarge => k_is)
    (case x4_TooLarge => k_is)
    (case x5_TooLarge => k_is)
    (case y1_TooLarge => k_is)
    (case y2_TooLarge => k_is)
    (case y4_TooLarge => k_is)
    (case y5_TooLarge => k_is)
    (case y8_TooLarge => k_is)
    (case vV => k_is)
    (case i1_ReckonError => k_is)
    (case i2_ReckonError => k_is)
    (case i3_ReckonError => k_is)
    (case i4_ReckonError => k_is)
    (case i5_ReckonError => k_is)
    (case i6_ReckonError => k_is)
    (case g1_R => k_is)
    (case g2_R => k_is)
    (case g3_R => k_is)
    (case i1_NotAllowed => k_is)
    (case i2_NotAllowed => k_is)
    (case i3_NotAllowed => k_is)
    (case i4_NotAllowed => k_is)
    (case i5_NotAllowed => k_is)
    (case i6_NotAllowed => k_is)
    (case o1_NotAllowed => k_is)
    (case o2_NotAllowed => rfl)
    (case o3_NotAllowed => k_is)
    (case o4_NotAllowed => k_is)
    (case i1_TooLarge => k_is)
    (case i2_TooLarge => k_is)
    (case i3_TooLarge => k_is)
    (case i4_TooLarge => k_is)
    (case i5_TooLarge => k_is)
    (case i6_TooLarge => k_is)
    (case o1_TooLarge => k_is)
    (case o2_TooLarge => rfl)
    (case o3_TooLarge => k_is)
    (case o4_TooLarge => k_is)
    (case y6 => k_is)
    (case y7 => k_is)
    (case s_TooLarge_TooLarge => k_is)
    (case z_ValueError => k_is)
    (case z_int => k_is)
    (case z_len => k_is)
    (case z_list => k_is)
    (case z_max => k_is)
    (case z_min => k_is)
    (case z_range => k_is)
    (case z_sum => k_is)
    (case z_tuple => k_is)
    (case z_zip => k_is)
    (case w_FIRST_END => k_is)
    (case w_INTEGER_BITS => k_is)
    (case w_MAX_GIVEN_BITS => k_is)
    (case w_MAX_HEIGHT => k_is)
    (case w_MAX_MODULUS => k_is)
    (case w_MAX_PRODUCT => k_is)
    (case w_MAX_SIZE => k_is)
    (case w_MAX_TERMS => k_is)
    (case w_NEAR_BITS => k_is)
    (case w_PLACE_BITS => k_is)
    (case v1_FIRST_NUMBERS => k_is)
    (case v2_FIRST_NUMBERS => kernel_rfl)
